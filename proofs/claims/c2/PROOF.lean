import PyProof.Rows.All
import KE.OsGo
import Open.Tops
import Open.SpecLaws
import PySem.Challenge.RW_ninekinds_s01_answers
import Wide.All
import OpenK.AllK
import Wide.FinOn
import PyProof.EqAt
import PyProof.EqKinds
import PyProof.TupleCall
import KE.BitLaws
import KE.KMinKey
import KE.OsEnd
set_option Elab.async false
set_option maxRecDepth 100000
set_option maxHeartbeats 0
set_option linter.all false
namespace PySem.W.Fast
def tw17206031236367339870:=0
def tw11939102169553112603:=0
def tw3149900842195533115:=0
def tw1866538466442896539:=0
def tw4725988787193376441:=0
def tw10489719200033818713:=0
def tw11759419884471048280:=0
def tw2887952756096608887:=0
def tw9811381315007700660:=0
def tw10728887253588926068:=0
def tw898905281034970355:=0
def tw17685583417666124914:=0
def tw10071420911988125681:=0
def tw7102983165621900433:=0
def tw8282871583584990257:=0
def tw1080463663442404847:=0
def tw15682807628278504204:=0
def tw6254093890350781196:=0
def tw10120878024980341452:=0
def tw12680685411237750313:=0
def tw17469751864994066473:=0
def tw6213028839436814278:=0
def tw16959319009960953573:=0
def tw5950224568749461217:=0
def tw10760664144305134464:=0
def tw9699856528365241088:=0
def tw17728504958053557742:=0
def tw4341084671130913878:=0
def tw10270630709858674145:=0
def tw6831363293036935602:=0
def tw13239491536251464006:=0
def tw15210667667737678758:=0
def tw7849237813957312420:=0
def tw17021052436725648570:=0
def tw5622537603534099959:=0
def tw16199413521417282501:=0
def tw11802785163675858645:=0
def tw12576464516029378968:=0
def tw9068290283491882010:=0
def tw8711673949897267702:=0
def tw16765743879542787398:=0
def tw4955813442976505148:=0
def tw5661742425478380346:=0
def tw10186847907050566733:=0
def tw15125382390830260353:=0
def tw2001986877372406959:=0
def tw17936165702414720077:=0
def tw2315949393759105207:=0
def tw15305501446609436977:=0
def tw16735041451486269298:=0
def tw12920529075621567345:=0
def tw153561613985872826:=0
def tw7253687821852481405:=0
def tw12701696473771961252:=0
def tw15007259976875245412:=0
def tw7100733034633233209:=0
def tw9302461750448110889:=0
def tw15297719433776881568:=0
def tw2457021069939834323:=0
def tw11585151139881948823:=0
def tw6196892402007277678:=0
def tw14518750054695517712:=0
def tw7033779092913460438:=0
def tw10514738175506298723:=0
def tw8184102601207651673:=0
def tw14840111969721532372:=0
def tw7574331390848668896:=0
def tw2729649080231255089:=0
def tw1253275895856674574:=0
def tw15469716560545787427:=0
def tw6579864200113365458:=0
def tw15915165847628041288:=0
def tw5467567062238638544:=0
def tw7845288932328297251:=0
def tw5499133321852112076:=0
def tw1500810762206962565:=0
def tw9847138026841163434:=0
def tw14666215364341147691:=0
def tw8712645547840346870:=0
def tw7489092195507538800:=0
def tw470184859980301323:=0
def tw18051384414467577065:=0
def tw5846862085093937652:=0
def tw1282812094825234097:=0
def tw12499313953655298136:=0
def tw3687076964008584678:=0
def tw881033971085101238:=0
def tw6165727264749058161:=0
def tw7538775557019231747:=0
def tw10879038041520925963:=0
def tw7855338035161812484:=0
def tw15101541187444484905:=0
def tw15643337715471760337:=0
def tw13399772143831602457:=0
def tw5879774144761955725:=0
def tw3479579858427493244:=0
def tw9594361747736291533:=0
def tw4454847654425833723:=0
def tw13716028456173059991:=0
def tw14039877251219462156:=0
def tw12575514800584315400:=0
def tw15806183497074696061:=0
def tw11881701787073531457:=0
def tw14963912925591326652:=0
def tw16108754949851758223:=0
def tw13753661879727463577:=0
def tw4951272350977243969:=0
def tw14904443908265398325:=0
def tw4191986339046383228:=0
def tw11173509063277082004:=0
def tw17758876846661166617:=0
def tw14086565739240443772:=0
def tw5413065159622452114:=0
def tw13692777746640643367:=0
def tw2593040451249980753:=0
def tw17922144757703091578:=0
def tw13297831032483641051:=0
def tw8855712714958434060:=0
def tw18206045486179964324:=0
def tw11981078616896947090:=0
def tw2782160266989733779:=0
def tw17314383996409165709:=0
def tw10823560725983666747:=0
def tw14376129273128089228:=0
def tw90182693991109483:=0
def tw16383734779596289793:=0
def tw8328205254593633930:=0
def tw14435214253223366795:=0
def tw1279823493897647065:=0
def tw16812842076210617711:=0
def tw10537589806934549122:=0
def tw1719809653341441657:=0
def tw7813174695631605536:=0
def tw5663311240019252964:=0
def tw5032923420562769350:=0
def tw4596285658671130468:=0
def tw6575168874906648030:=0
def tw10278388585990932951:=0
def tw9772546913535320485:=0
def tw3482991632087246666:=0
def tw10273003784321583022:=0
def tw11770242868910033227:=0
def tw15971126239352362633:=0
def tw2806638664645078639:=0
def tw1082439820714042378:=0
def tw6543931415860132673:=0
def tw10363021234652758280:=0
def tw11635203945339381927:=0
def tw11375684530732982322:=0
def tw2152531458350037106:=0
def tw8598492322313158794:=0
def tw8106372784798436718:=0
def tw3754445014505589643:=0
def tw11600696265653211026:=0
def tw5477620925268260539:=0
def tw13903773944340656806:=0
def tw10812376918250341151:=0
def tw3577563919677744609:=0
def tw6813994476127843096:=0
def tw7951066652180699187:=0
def tw10432387544812837070:=0
def tw16758162052811609224:=0
def tw15746240788322511095:=0
def tw16695724684376250663:=0
def tw8778488050078243064:=0
def tw13667782052218600391:=0
def tw6505858421981314977:=0
def tw8469699239361194276:=0
def tw10104556946971511528:=0
def tw10548928558100386313:=0
def tw6930320171208333175:=0
def tw10709075356345552317:=0
def tw12365122389525355363:=0
def tw4989474447808412720:=0
def tw17726564482474293086:=0
def tw18011981675356956216:=0
def tw16775620498732835901:=0
def tw17685785742021151326:=0
def tw4077807097591095309:=0
def tw7553758720283380281:=0
def tw6093632711229674416:=0
def tw7380003916608559111:=0
def tw10107438877154008060:=0
def tw10198481320691040533:=0
def tw12924590052827462848:=0
def tw4462698315496372961:=0
def tw6587241826316120434:=0
def tw10170329201840447074:=0
def tw9639015414507698207:=0
def tw15424464920237793258:=0
def tw5154920263601837729:=0
def tw17264424101645642935:=0
def tw10125852137792760384:=0
def tw2194778040407725641:=0
def tw5422595813798282502:=0
def tw8411082959096046954:=0
def tw15879160303895493979:=0
def tw7234636574962042641:=0
def tw8879121469428451804:=0
def tw13415735195430176518:=0
def tw5003421876451719093:=0
def tw5094368547772515761:=0
def tw13406743237677308743:=0
def tw12882859431767779787:=0
def tw8812048592321305684:=0
def tw8037959140847601041:=0
def tw13243836786055375935:=0
def tw8736257898203494638:=0
def tw8682967403816931543:=0
def tw11807429739133935552:=0
def tw8399698784291469824:=0
def tw118176015593702955:=0
def tw1368718817135764737:=0
def tw1126216820844526085:=0
def tw11793335766338539072:=0
def tw11501335378189501659:=0
def tw6779220148301790540:=0
def tw16055844652227670034:=0
def tw12082893427147931084:=0
def tw7528093925903043727:=0
def tw3875060154513523943:=0
def tw3293820342791743854:=0
def tw15070487039009405219:=0
def tw16034022488063193015:=0
def tw2693158917129715686:=0
def tw9332734521440798073:=0
def tw14861916534330838334:=0
def tw1879593571984573332:=0
def tw11827140866672008882:=0
def tw8796495669103551251:=0
def tw16405052225720593961:=0
def tw13397703172460201264:=0
def tw15140450044980704700:=0
def tw5558505976579584816:=0
def tw9992859843899856966:=0
def tw10263962856165851596:=0
def tw8435830735952067159:=0
def tw11991567797682825304:=0
def tw14292951258071282846:=0
def tw7530178043219198248:=0
def tw3767565984888655851:=0
def tw6554539421731226089:=0
def tw18402602076801727092:=0
def tw3671743818145813010:=0
def tw7093961323938533686:=0
def tw5040322121338707735:=0
def tw13774735886410033349:=0
def tw14529815823308859850:=0
def tw12543698266987788290:=0
def tw15769632230674698600:=0
def tw15226236571017552946:=0
def tw13373367514052519762:=0
def tw8752464648267030003:=0
def tw18249432271235968007:=0
def tw13676500181007856553:=0
def tw16684853184504669863:=0
def tw15957341409353644260:=0
def tw17690088300606290986:=0
def tw2115680531224738790:=0
def tw8592651149052796627:=0
def tw17147258739776246874:=0
def tw3260679299107476363:=0
def tw15836586305306005661:=0
def tw18347455994218589298:=0
def tw104323575805920407:=0
def tw10149181066615374773:=0
def tw8618997305539779273:=0
def tw9511073199180315610:=0
def tw8508136341507996833:=0
def tw15368695288994365319:=0
def tw2832841446638050778:=0
def tw13873743740450195690:=0
def tw1953329509662555445:=0
def tw659892863646149163:=0
def tw16180388370469402727:=0
def tw1925860062491718917:=0
def tw1382872156862390830:=0
def tw738996115244318587:=0
def tw6221320539227095466:=0
def tw16481395939483360302:=0
def tw2435706740966516412:=0
def tw8955915382545489657:=0
def tw10973323990987901369:=0
def tw15940645289954902559:=0
def tw16824713412702255301:=0
def tw15488828601768406904:=0
def tw2387780407379067962:=0
def tw6982127282833729747:=0
def tw14452674010299001134:=0
def tw6877273382745790978:=0
def tw6080519448303959590:=0
def tw14847198124018360732:=0
def tw14087650477572559821:=0
def tw12811984790708627719:=0
def tw16584999023215077848:=0
def tw13606814084202176202:=0
def tw4726388170964655396:=0
def tw5666352942728526490:=0
def tw4713899104623178656:=0
def tw1614192972512645630:=0
def tw2809715864479110078:=0
def tw14785692853423147405:=0
def tw7640349023846779070:=0
def tw2894742550058697418:=0
def tw8235122986879948410:=0
def tw676936161805664948:=0
def tw9008669397243674234:=0
def tw17628437003708696012:=0
def tw928486230855452316:=0
def tw7130906156296424481:=0
def tw10967995480246485798:=0
def tw10739400819191055263:=0
def tw13160368611686825910:=0
def tw14566033346138963343:=0
def tw8372185404565614751:=0
def tw11864581965312630582:=0
def tw667100753633683267:=0
def tw9894433861135961817:=0
def tw4238995220387248027:=0
def tw1465077065073190595:=0
def tw9891955459112142189:=0
def tw7727192454923134750:=0
def tw17713304636604514050:=0
def tw6081083013297297810:=0
def tw6942065778250997646:=0
def tw14709464522636384973:=0
def tw3882542136256910707:=0
def tw1335981644481285063:=0
def tw14216495915967868605:=0
def tw14939986750207820626:=0
def tw10970576810435390994:=0
def tw1878336770606474894:=0
def tw13437021748629072761:=0
def tw6370291841628460130:=0
def tw2493454224670081768:=0
def tw8124894772035164016:=0
def tw12060607022032186282:=0
def tw16539488321276250848:=0
def tw1470486788832776454:=0
def tw555734095230388633:=0
def tw2058141280092417749:=0
def tw387941123136648315:=0
def tw1002031565757290361:=0
def tw14169124584160800609:=0
def tw8818977542739546864:=0
def tw8313998458162922489:=0
def tw18225871031797810323:=0
def tw7400193609032262622:=0
def tw434977843280356044:=0
def tw1594977590817106614:=0
def tw6671834280923180007:=0
def tw2527292854071823505:=0
def tw6348029180749041554:=0
def tw134564860925114881:=0
def tw18030899190824495756:=0
def tw7416280234778714373:=0
def tw6345274148890392690:=0
def tw9308128758464208026:=0
def tw11210707992509244351:=0
def tw11450124367629046039:=0
def tw4991429737090539101:=0
def tw10759697536616561209:=0
def tw6543911840590948415:=0
def tw12316706306831107345:=0
def tw7546790650608159549:=0
def tw2980229680784652183:=0
def tw12073287575520334431:=0
def tw11300080336525997116:=0
def tw7655966337779194469:=0
def tw6852892505962651410:=0
def tw17212306797159047615:=0
def tw2251095370728539415:=0
def tw14163503468181755146:=0
def tw9637663106424152603:=0
def tw17546586597489094713:=0
def tw860485086263607867:=0
def tw7882130164545148234:=0
def tw17889490152096059632:=0
def tw8116414691929175093:=0
def tw5215404967826274559:=0
def tw13920580709871444965:=0
def tw9237941348759899529:=0
def tw4454557408527119333:=0
def tw3083343038755379861:=0
def tw12304942091407173367:=0
def tw11360027678101726788:=0
def tw10943054654354631371:=0
def tw11491604872508645010:=0
def tw16479641680155683057:=0
def tw2547691770024805829:=0
def tw14751293664870169161:=0
def tw4796965523509009932:=0
def tw448274939219891656:=0
def tw14783890256294738594:=0
def tw9672682885159911251:=0
def tw9859701954655980469:=0
def tw3953832187226484740:=0
def tw6121114559595123474:=0
def tw7581885525425872232:=0
def tw16296900219955867396:=0
def tw17926333277424845292:=0
def tw18345969571672972225:=0
def tw6787887339067672517:=0
def tw17703409144780497702:=0
def tw59226420447195338:=0
def tw13575043596241068326:=0
def tw15918688607340663491:=0
def tw2972795614073851877:=0
def tw14669702729882504771:=0
def tw3798036050139416096:=0
def tw4502312360952922731:=0
def tw15508302876733929474:=0
def tw11930575417229867366:=0
def tw5006486350432258259:=0
def tw16228136913238761773:=0
def tw14587255549274974087:=0
def tw14071042005691579015:=0
def tw5527537960733237323:=0
def tw1911985787557772133:=0
end PySem.W.Fast
section
open PySem.W
open_shared T for PySem.Challenge.pw_ninekinds_s01_answers leaving 0
end
section
open PySem PySem.W PyProof.Rows
namespace NK
noncomputable abbrev RR:=PySem.Challenge.rw_ninekinds_s01_answers
theorem T9:RR.wellSaid=true:=by
 unfold OpenSpec.wellSaid looksOpen;simp only [Bool.and_eq_true]
 and_intros <;> decide +kernel
theorem Ua:RR.prog.bare:=⟨by kernel_rfl,by kernel_rfl,by kernel_rfl,by kernel_rfl,by kernel_rfl,by decide +kernel⟩
noncomputable abbrev pg:=PySem.Challenge.pw_ninekinds_s01_answers
noncomputable abbrev sA (w:World) (os:OsState):Shared:=SharedT.abs ⟨T.tree_4 w.params,15,{},⟨[]⟩,{},187,os⟩
noncomputable abbrev sZ (w:World) (os:OsState):Shared:=SharedT.abs ⟨T.tree_789 w.params,765,{},⟨[]⟩,{},1410,os⟩
noncomputable abbrev Na:Option Value:=some (.ref 6)
noncomputable abbrev Nb:Pos:=⟨0,0,0,0⟩
noncomputable abbrev cE:Code:=.body (behindTheImports pg) T.env_1
theorem Ny (w:World) (os:OsState):topGo treeTable pg w 11 Na 12 ⟨boot_heap w.params,⟨[]⟩,boot_drawn,boot_toks,os⟩ (topStub pg)=some (sA w os,⟨denote treeTable cE,cE,Nb,[topFrame Nb]⟩):=by
 rw [PySem.W.Fast.te15667345088766844465,PySem.W.Fast.te14364793385576792824,PySem.W.Fast.te11892475500146522536];kernel_rfl
theorem JC (w:World) (os:OsState):segRun treeTable pg w 11 Na 1 1 (sA w os) (blockOf (behindTheImports pg) T.env_1 cE Nb [topFrame Nb])=some (.next,sA w os,cE,Nb):=by
 rw [PySem.W.Fast.te14374325043358763698,PySem.W.Fast.te14364793385576792824];kernel_rfl
theorem Nz (w:World) (os:OsState):topRun treeTable pg w 11 Na 2 (sZ w os) (restOf [] T.env_1 cE ⟨638,0,647,28⟩ [topFrame Nb])=some (sZ w os):=by
 rw [PySem.W.Fast.te14082659384304107361,PySem.W.Fast.te14364793385576792824];kernel_rfl
theorem NA (w:World) (os:OsState):topRun treeTable pg w 11 Na (12+(1+4555)) ⟨boot_heap w.params,⟨[]⟩,boot_drawn,boot_toks,os⟩ (topStub pg)=some (sZ w os) :=
 go_top (Ny w os) (piece_block (JC w os) (T.chain pg (behindTheImports pg) w os [] 2 _ (Nz w os)))
theorem Lz (w:World):((boot_heap w.params).isNs mainGlobals&&(⟨[]⟩:Array GenState).size == 0,(boot_heap w.params).objs.size,(boot_heap w.params).nsMap mainGlobals "__annotations__")=(true,11,Na):=by kernel_rfl
noncomputable abbrev Se:List Nat:=[114,129,132,133,134,135,136,137,167]
noncomputable def nm:Stmt→Option Str
 | .FunctionDef n ..=>some n
 | .ClassDef n ..=>some n
 | .Assign [.Name n _] ..=>some n
 | _=>none
noncomputable def q9:Program:={ pg with main:={ pg.main with body:=Se.filterMap (pg.main.body[·]?) } }
noncomputable def NB:List Str:=pg.main.body.zipIdx.filterMap fun x=>bif Se.contains x.2 then none else nm x.1
noncomputable abbrev H1 (P:Params):Heap:=absHeap (T.tree_789 P) 765 {}
noncomputable abbrev X9:Shared→Bool:=fun s=>recOk [] s
theorem PV (w:World) (os:OsState):(staticsOk (importedModules pg.main.body) (boot_heap w.params) (H1 w.params)&&namesBound pg (H1 w.params)&&gensDone ⟨H1 w.params,⟨[]⟩,{},1410,os⟩&&laidKept (boot_heap w.params) (H1 w.params))=true:=by kernel_rfl
theorem PX (w:World) (os:OsState):openSeen q9 NB (importedModules pg.main.body) X9 true ⟨H1 w.params,⟨[]⟩,{},1410,os⟩=openGood q9 NB:=by
 rw [PySem.W.Fast.te4187177175401517315];kernel_rfl
noncomputable def K9 (P:Params):Frag:=(nat_lit 2,boot_o_2 P)::(nat_lit 3,T.o_738 P)::(nat_lit 15,T.o_7 P)::(nat_lit 16,T.o_8 P)::(nat_lit 17,T.o_9 P)::(nat_lit 18,T.o_10 P)::(nat_lit 19,T.o_11 P)::(nat_lit 27,T.o_19 P)::(nat_lit 29,T.o_21 P)::(nat_lit 30,T.o_22 P)::(nat_lit 32,T.o_24 P)::(nat_lit 33,T.o_25 P)::(nat_lit 34,T.o_26 P)::(nat_lit 35,T.o_27 P)::(nat_lit 36,T.o_28 P)::(nat_lit 37,T.o_29 P)::(nat_lit 38,T.o_30 P)::(nat_lit 46,T.o_41 P)::(nat_lit 47,T.o_42 P)::(nat_lit 53,T.o_48 P)::(nat_lit 54,T.o_49 P)::(nat_lit 60,T.o_55 P)::(nat_lit 61,T.o_56 P)::(nat_lit 67,T.o_62 P)::(nat_lit 68,T.o_63 P)::(nat_lit 74,T.o_69 P)::(nat_lit 75,T.o_70 P)::(nat_lit 81,T.o_76 P)::(nat_lit 82,T.o_77 P)::(nat_lit 88,T.o_83 P)::(nat_lit 89,T.o_84 P)::(nat_lit 95,T.o_90 P)::(nat_lit 96,T.o_91 P)::(nat_lit 102,T.o_97 P)::(nat_lit 103,T.o_98 P)::(nat_lit 109,T.o_104 P)::(nat_lit 110,T.o_105 P)::(nat_lit 116,T.o_111 P)::(nat_lit 117,T.o_112 P)::(nat_lit 123,T.o_118 P)::(nat_lit 124,T.o_119 P)::(nat_lit 130,T.o_128 P)::(nat_lit 131,T.o_129 P)::(nat_lit 137,T.o_135 P)::(nat_lit 138,T.o_136 P)::(nat_lit 144,T.o_142 P)::(nat_lit 145,T.o_143 P)::(nat_lit 146,T.o_144 P)::(nat_lit 152,T.o_150 P)::(nat_lit 153,T.o_151 P)::(nat_lit 159,T.o_157 P)::(nat_lit 160,T.o_158 P)::(nat_lit 166,T.o_164 P)::(nat_lit 167,T.o_165 P)::(nat_lit 173,T.o_171 P)::(nat_lit 174,T.o_172 P)::(nat_lit 180,T.o_178 P)::(nat_lit 181,T.o_179 P)::(nat_lit 187,T.o_185 P)::(nat_lit 188,T.o_186 P)::(nat_lit 194,T.o_192 P)::(nat_lit 195,T.o_193 P)::(nat_lit 201,T.o_199 P)::(nat_lit 202,T.o_200 P)::(nat_lit 208,T.o_209 P)::(nat_lit 209,T.o_210 P)::(nat_lit 215,T.o_216 P)::(nat_lit 216,T.o_217 P)::(nat_lit 222,T.o_223 P)::(nat_lit 223,T.o_224 P)::(nat_lit 229,T.o_230 P)::(nat_lit 230,T.o_231 P)::(nat_lit 236,T.o_237 P)::(nat_lit 237,T.o_238 P)::(nat_lit 243,T.o_244 P)::(nat_lit 244,T.o_245 P)::(nat_lit 250,T.o_251 P)::(nat_lit 251,T.o_252 P)::(nat_lit 257,T.o_258 P)::(nat_lit 258,T.o_259 P)::(nat_lit 264,T.o_265 P)::(nat_lit 265,T.o_266 P)::(nat_lit 271,T.o_272 P)::(nat_lit 272,T.o_273 P)::(nat_lit 278,T.o_279 P)::(nat_lit 279,T.o_280 P)::(nat_lit 285,T.o_289 P)::(nat_lit 286,T.o_290 P)::(nat_lit 292,T.o_296 P)::(nat_lit 293,T.o_297 P)::(nat_lit 299,T.o_303 P)::(nat_lit 300,T.o_304 P)::(nat_lit 306,T.o_310 P)::(nat_lit 307,T.o_311 P)::(nat_lit 313,T.o_317 P)::(nat_lit 314,T.o_318 P)::(nat_lit 320,T.o_324 P)::(nat_lit 321,T.o_325 P)::(nat_lit 327,T.o_331 P)::(nat_lit 328,T.o_332 P)::(nat_lit 334,T.o_338 P)::(nat_lit 335,T.o_339 P)::(nat_lit 341,T.o_345 P)::(nat_lit 342,T.o_346 P)::(nat_lit 348,T.o_352 P)::(nat_lit 349,T.o_353 P)::(nat_lit 355,T.o_359 P)::(nat_lit 356,T.o_360 P)::(nat_lit 362,T.o_369 P)::(nat_lit 363,T.o_370 P)::(nat_lit 369,T.o_376 P)::(nat_lit 370,T.o_377 P)::(nat_lit 376,T.o_383 P)::(nat_lit 377,T.o_384 P)::(nat_lit 383,T.o_390 P)::(nat_lit 384,T.o_391 P)::(nat_lit 392,T.o_399 P)::(nat_lit 394,T.o_401 P)::(nat_lit 395,T.o_402 P)::(nat_lit 397,T.o_404 P)::(nat_lit 398,T.o_405 P)::(nat_lit 399,T.o_406 P)::(nat_lit 400,T.o_407 P)::(nat_lit 401,T.o_408 P)::(nat_lit 402,T.o_409 P)::(nat_lit 403,T.o_410 P)::(nat_lit 413,T.o_423 P)::(nat_lit 415,T.o_425 P)::(nat_lit 416,T.o_426 P)::(nat_lit 418,T.o_428 P)::(nat_lit 419,T.o_429 P)::(nat_lit 420,T.o_430 P)::(nat_lit 421,T.o_431 P)::(nat_lit 422,T.o_432 P)::(nat_lit 423,T.o_433 P)::(nat_lit 424,T.o_434 P)::(nat_lit 427,T.o_437 P)::(nat_lit 430,T.o_440 P)::(nat_lit 431,T.o_441 P)::(nat_lit 432,T.o_442 P)::(nat_lit 435,T.o_445 P)::(nat_lit 436,T.o_446 P)::(nat_lit 437,T.o_447 P)::(nat_lit 440,T.o_450 P)::(nat_lit 441,T.o_451 P)::(nat_lit 442,T.o_452 P)::(nat_lit 445,T.o_455 P)::(nat_lit 446,T.o_456 P)::(nat_lit 447,T.o_457 P)::(nat_lit 450,T.o_460 P)::(nat_lit 451,T.o_461 P)::(nat_lit 457,T.o_467 P)::(nat_lit 458,T.o_468 P)::(nat_lit 464,T.o_477 P)::(nat_lit 465,T.o_478 P)::(nat_lit 471,T.o_484 P)::(nat_lit 472,T.o_485 P)::(nat_lit 478,T.o_491 P)::(nat_lit 479,T.o_492 P)::(nat_lit 485,T.o_498 P)::(nat_lit 486,T.o_499 P)::(nat_lit 492,T.o_505 P)::(nat_lit 493,T.o_506 P)::(nat_lit 499,T.o_512 P)::(nat_lit 500,T.o_513 P)::(nat_lit 506,T.o_519 P)::(nat_lit 507,T.o_520 P)::(nat_lit 513,T.o_526 P)::(nat_lit 514,T.o_527 P)::(nat_lit 520,T.o_536 P)::(nat_lit 521,T.o_537 P)::(nat_lit 527,T.o_543 P)::(nat_lit 528,T.o_544 P)::(nat_lit 529,T.o_545 P)::(nat_lit 532,T.o_548 P)::(nat_lit 533,T.o_549 P)::(nat_lit 539,T.o_555 P)::(nat_lit 540,T.o_556 P)::(nat_lit 541,T.o_557 P)::(nat_lit 544,T.o_560 P)::(nat_lit 545,T.o_561 P)::(nat_lit 546,T.o_562 P)::(nat_lit 549,T.o_565 P)::(nat_lit 550,T.o_566 P)::(nat_lit 556,T.o_572 P)::(nat_lit 557,T.o_573 P)::(nat_lit 563,T.o_579 P)::(nat_lit 564,T.o_580 P)::(nat_lit 570,T.o_586 P)::(nat_lit 571,T.o_587 P)::(nat_lit 572,T.o_588 P)::(nat_lit 575,T.o_591 P)::(nat_lit 576,T.o_592 P)::(nat_lit 577,T.o_596 P)::(nat_lit 580,T.o_599 P)::(nat_lit 581,T.o_600 P)::(nat_lit 587,T.o_606 P)::(nat_lit 588,T.o_607 P)::(nat_lit 594,T.o_613 P)::(nat_lit 595,T.o_614 P)::(nat_lit 596,T.o_615 P)::(nat_lit 599,T.o_618 P)::(nat_lit 600,T.o_619 P)::(nat_lit 606,T.o_625 P)::(nat_lit 607,T.o_626 P)::(nat_lit 613,T.o_632 P)::(nat_lit 614,T.o_633 P)::(nat_lit 620,T.o_639 P)::(nat_lit 621,T.o_640 P)::(nat_lit 627,T.o_646 P)::(nat_lit 628,T.o_647 P)::(nat_lit 634,T.o_653 P)::(nat_lit 635,T.o_654 P)::(nat_lit 641,T.o_660 P)::(nat_lit 642,T.o_661 P)::(nat_lit 648,T.o_667 P)::(nat_lit 649,T.o_668 P)::(nat_lit 655,T.o_677 P)::(nat_lit 656,T.o_678 P)::(nat_lit 657,T.o_679 P)::(nat_lit 660,T.o_682 P)::(nat_lit 661,T.o_683 P)::(nat_lit 667,T.o_689 P)::(nat_lit 668,T.o_690 P)::(nat_lit 674,T.o_696 P)::(nat_lit 675,T.o_697 P)::(nat_lit 681,T.o_703 P)::(nat_lit 682,T.o_704 P)::(nat_lit 688,T.o_710 P)::(nat_lit 689,T.o_711 P)::(nat_lit 690,T.o_712 P)::(nat_lit 693,T.o_715 P)::(nat_lit 694,T.o_716 P)::(nat_lit 695,T.o_717 P)::(nat_lit 698,T.o_720 P)::(nat_lit 699,T.o_721 P)::(nat_lit 700,T.o_722 P)::(nat_lit 703,T.o_725 P)::(nat_lit 704,T.o_726 P)::(nat_lit 705,T.o_727 P)::(nat_lit 708,T.o_730 P)::(nat_lit 709,T.o_731 P)::(nat_lit 710,T.o_732 P)::(nat_lit 713,T.o_735 P)::(nat_lit 714,T.o_736 P)::(nat_lit 715,T.o_740 P)::(nat_lit 721,T.o_746 P)::(nat_lit 722,T.o_747 P)::(nat_lit 728,T.o_753 P)::(nat_lit 729,T.o_754 P)::(nat_lit 735,T.o_760 P)::(nat_lit 736,T.o_761 P)::(nat_lit 742,T.o_767 P)::(nat_lit 743,T.o_768 P)::(nat_lit 749,T.o_774 P)::(nat_lit 750,T.o_775 P)::(nat_lit 756,T.o_781 P)::(nat_lit 757,T.o_782 P)::(nat_lit 763,T.o_788 P)::(nat_lit 764,T.o_789 P)::[]
theorem Ub (P:Params):(K9 P).In (H1 P):=Frag.in_of (as:=(K9 P).map (·.1)) rfl (by kernel_rfl)
theorem LA:LeftO RR.prog q9 NB X9 (fun s=>s.heap) (fun w=>H1 w.params) 10000 :=
 LeftO.of_pieces (H₀:=boot_heap) (H₁:=H1) (m₀:=11) (ann:=Na) (M:=12+(1+4555)) (boot_open (p:=pg) (N:=10000) (by kernel_rfl) rfl (fun s=>by kernel_rfl)) Lz NA rfl
  fun w=>funext fun os=>by
   show ((staticsOk (importedModules pg.main.body) (boot_heap w.params) (H1 w.params)&&namesBound pg (H1 w.params)&&gensDone ⟨H1 w.params,⟨[]⟩,{},1410,os⟩&&laidKept (boot_heap w.params) (H1 w.params)),openSeen q9 NB (importedModules pg.main.body) X9 true ⟨H1 w.params,⟨[]⟩,{},1410,os⟩,H1 w.params)=(true,openGood q9 NB,H1 w.params);rw [PV w os,PX w os]
noncomputable def d9:DefRec:=((defOf q9 RR.name).get (by kernel_rfl)).1
theorem PY:defOf q9 RR.name=some (d9,[]):=by kernel_rfl
theorem PZ:RR.prog.theDef RR.name=some (d9.params,d9.body,d9.scope):=by kernel_rfl
theorem P8:kwWritten? d9.params.kwonlyargs d9.params.kw_defaults=some []:=by kernel_rfl
theorem Uc:(chainsOk q9&&opensWell RR.prog)=true:=by decide +kernel
end NK
end
namespace NK
open Rd18
noncomputable def Bk (k:Nat):Prop:=k=6∨k=7∨k=8
noncomputable def bj (k:Nat):Int:=1 - moved k - ((digits k:Int) - 1)
noncomputable def bp (k:Nat):Nat:=2 ^ (width k - 1)
theorem Bk.broken {k:Nat} (h:Bk k):broken k=true:=by rcases h with rfl | rfl | rfl <;> rfl
theorem qz {k:Nat} (h:Bk k):bp k=(top k+1)*2 ^ (digits k - 1):=by
 rcases h with rfl | rfl | rfl <;> decide
theorem Bd {k:Nat} (h:Bk k):2 ^ width k=2*bp k:=by
 rcases h with rfl | rfl | rfl <;> decide
theorem rO {k:Nat} (h:Bk k):infinity k < bp k:=by
 rcases h with rfl | rfl | rfl <;> decide
theorem Be {k:Nat} (h:Bk k):plain k < bp k:=by
 rcases h with rfl | rfl | rfl <;> decide
theorem zT {k:Nat} (h:Bk k):infinity k < plain k:=by
 rcases h with rfl | rfl | rfl <;> decide
theorem dj {k:Nat} (h:Bk k):11≤digits k∧digits k≤53:=by
 rcases h with rfl | rfl | rfl <;> decide
noncomputable def aq (k b:Nat):Nat:=b % bp k
noncomputable def a9 (k b:Nat):Bool:=decide (bp k≤b)
noncomputable def cV (k r:Nat):Nat:=r / 2 ^ (digits k - 1) - 1
noncomputable def aS (k r:Nat):Nat:=r - cV k r*2 ^ (digits k - 1)
noncomputable def bP (k r:Nat):Int:=bj k+(cV k r:Int)
theorem Eb {k b:Nat} (h:Bk k):b / 2 ^ (digits k - 1) % (top k+1)=aq k b / 2 ^ (digits k - 1):=by
 unfold aq;rw [qz h,Nat.mul_comm (top k+1),Nat.mod_mul_right_div_self]
theorem Ec {k b:Nat} (h:Bk k):b % 2 ^ (digits k - 1)=aq k b % 2 ^ (digits k - 1):=by
 unfold aq;rw [qz h,Nat.mul_comm,Nat.mod_mul_right_mod]
theorem aY {k b:Nat} (h:Bk k) :
  (aq k b < infinity k∧worth k b=.fin (a9 k b) (aS k (aq k b)) (bP k (aq k b))) ∨
  (aq k b=infinity k∧worth k b=.inf (a9 k b))∨(infinity k < aq k b∧worth k b=.nan):=by
 have hb:broken k=true:=h.broken;have iD:aq k b < bp k:=Nat.mod_lt _ (Nat.two_pow_pos _);have hm:=qz h;have Bf:0 < 2 ^ (digits k - 1):=Nat.two_pow_pos _;unfold worth;simp only [hb,Bool.true_eq_false,if_false];rw [Eb h,Ec h];have GI:=Nat.div_add_mod (aq k b) (2 ^ (digits k - 1));have NC:=Nat.mod_lt (aq k b) Bf;have LB:infinity k=top k*2 ^ (digits k - 1):=rfl;have e:(decide (2 ^ (width k - 1)≤b))=a9 k b:=rfl;rw [e];generalize hx:aq k b / 2 ^ (digits k - 1)=x at *
 generalize hf:aq k b % 2 ^ (digits k - 1)=f at *
 have XC:x≤top k:=by
  have:x < top k+1:=by
   rw [← hx];exact Nat.div_lt_of_lt_mul (by rw [Nat.mul_comm,← hm];exact iD)
  omega
 by_cases Sf:x=top k
 ·subst Sf;rw [if_pos rfl];by_cases P9:f=0
  ·refine .inr (.inl ⟨?_,by rw [if_pos P9]⟩);rw [LB,← GI,P9,Nat.mul_comm];rfl
  ·refine .inr (.inr ⟨?_,by rw [if_neg P9]⟩);rw [LB,← GI,Nat.mul_comm];omega
 ·rw [if_neg Sf];have JD:aq k b < infinity k:=by
   rw [LB,← GI];have h1:(x+1)*2 ^ (digits k - 1)≤top k*2 ^ (digits k - 1):=Nat.mul_le_mul_right _ (by omega);rw [Nat.add_mul,Nat.mul_comm x] at h1;omega
  refine .inl ⟨JD,?_⟩;by_cases CB:x=0
  ·rw [if_pos CB];have ha:cV k (aq k b)=0:=by unfold cV;rw [hx,CB]
   unfold aS bP;rw [ha];subst CB;simp only [Nat.mul_zero,Nat.zero_add] at GI;simp [bj,GI]
  ·rw [if_neg CB];have ha:cV k (aq k b)=x - 1:=by unfold cV;rw [hx]
   unfold aS bP;rw [ha];have e1:aq k b - (x - 1)*2 ^ (digits k - 1)=f+2 ^ (digits k - 1):=by
    rw [← GI,Nat.mul_comm (2 ^ (digits k - 1)) x];obtain ⟨y,rfl⟩:∃ y,x=y+1:=⟨x - 1,by omega⟩;rw [Nat.add_mul,Nat.add_sub_cancel];omega
   have e2:bj k+((x - 1:Nat):Int)=(x:Int) - moved k - ((digits k:Int) - 1):=by
    unfold bj;omega
   rw [e1,e2]
noncomputable def cM (way:Nat) (neg:Bool) (m:Nat) (D:Int):Nat:=units way neg m 0 D
theorem jO (way:Nat) (neg:Bool) (m:Nat) (e u:Int):units way neg m e u=cM way neg m (u - e):=by
 unfold cM units;by_cases h:u≤e
 ·rw [if_pos h,if_pos (show u - e≤0 by omega)];rw [show (0 - (u - e))=e - u by omega]
 ·rw [if_neg h,if_neg (show ¬ u - e≤0 by omega)];rw [show (u - e - 0)=u - e by omega]
theorem du {way:Nat} {neg:Bool} {m:Nat} {D:Int} (h:D≤0):cM way neg m D=m*2 ^ (-D).toNat:=by
 unfold cM units;rw [if_pos h,show (0 - D)=-D by omega]
theorem hU {way:Nat} {neg:Bool} {m:Nat} {D:Int} (h:0 < D) :
  cM way neg m D=if more way neg (decide (m / 2 ^ D.toNat % 2=1)) (m % 2 ^ D.toNat) (2 ^ D.toNat)=true then m / 2 ^ D.toNat+1 else m / 2 ^ D.toNat:=by
 unfold cM units;rw [if_neg (by omega),show (D - 0)=D by omega]
theorem Fc {way:Nat} {neg:Bool} {m:Nat} {D:Int} (h:0 < D):m / 2 ^ D.toNat≤cM way neg m D:=by
 rw [hU h];split <;> omega
noncomputable def bq (m:Nat):Int:=if m=0 then 0 else (Nat.log2 m:Int)+1
noncomputable def aW (k m:Nat) (e:Int):Int:=max (bq m - (digits k:Int)) (bj k - e)
noncomputable def bR (k way:Nat) (neg:Bool) (m:Nat) (e:Int):Nat :=
 (e+aW k m e - bj k).toNat*2 ^ (digits k - 1)+cM way neg m (aW k m e)
theorem pf {m:Nat} (h:m≠0):2 ^ Nat.log2 m≤m:=Nat.log2_self_le h
theorem lR (m:Nat):m < 2 ^ (Nat.log2 m+1):=Nat.lt_log2_self
theorem ee {k way:Nat} {neg:Bool} {m:Nat} {e:Int} (hk:Bk k) (hm:m≠0) :
  rounded k way neg m e=sign k neg (if infinity k≤bR k way neg m e then (if over way neg=true then infinity k else infinity k - 1) else bR k way neg m e):=by
 have hp:=dj hk;have hu:max ((Nat.log2 m:Int)+e - ((digits k:Int) - 1)) (bj k)=e+aW k m e:=by
  unfold aW bq;rw [if_neg hm];omega
 have Ud:units way neg m e (e+aW k m e)=cM way neg m (aW k m e):=by
  rw [jO];congr 1;omega
 have OY:bq m - (digits k:Int)≤aW k m e:=Int.le_max_left _ _;have rP:bj k - e≤aW k m e:=Int.le_max_right _ _;have LC:aW k m e=bq m - (digits k:Int)∨aW k m e=bj k - e:=by unfold aW;omega
 unfold rounded;rw [if_neg hm];show sign k neg _=_;have hl:(1 - moved k - ((digits k:Int) - 1))=bj k:=rfl;simp only [hl,hu,Ud];have key:(if cM way neg m (aW k m e) < 2 ^ (digits k - 1) then cM way neg m (aW k m e) else cM way neg m (aW k m e) - 2 ^ (digits k - 1)+(e+aW k m e - bj k+1).toNat*2 ^ (digits k - 1))=bR k way neg m e:=by
  unfold bR;by_cases hq:cM way neg m (aW k m e) < 2 ^ (digits k - 1)
  ·rw [if_pos hq];have hz:e+aW k m e - bj k=0:=by
    rcases LC with h1 | h1
    ·exfalso;unfold bq at h1;rw [if_neg hm] at h1;by_cases Bf:0 < aW k m e
     ·have h2:=Fc (way:=way) (neg:=neg) (m:=m) Bf;have h3:2 ^ (digits k - 1)≤m / 2 ^ (aW k m e).toNat:=by
       rw [Nat.le_div_iff_mul_le (Nat.two_pow_pos _),← Nat.pow_add];rw [show digits k - 1+(aW k m e).toNat=Nat.log2 m by omega];exact pf hm
      omega
     ·rw [du (by omega)] at hq;have h3:2 ^ (digits k - 1)≤m*2 ^ (-(aW k m e)).toNat:=by
       rw [show digits k - 1=Nat.log2 m+(-(aW k m e)).toNat by omega,Nat.pow_add];exact Nat.mul_le_mul_right _ (pf hm)
      omega
    ·omega
   rw [hz];simp
  ·rw [if_neg hq];rw [show (e+aW k m e - bj k+1).toNat=(e+aW k m e - bj k).toNat+1 by omega,Nat.add_mul];omega
 rw [key];rfl
theorem jf (k:Nat):0 < (bp k:Int):=by
 have:=Nat.two_pow_pos (width k - 1);unfold bp;omega
theorem ph (k b:Nat):((b:Int) % (bp k:Int))=(aq k b:Int):=by
 unfold aq;exact (Int.natCast_emod b (bp k)).symm
theorem cD (d:Nat):(2:Int) ^ d=((2 ^ d:Nat):Int):=by
 rw [Int.natCast_pow];rfl
theorem wG (m d:Nat):(m:Int) / 2 ^ d=((m / 2 ^ d:Nat):Int):=by
 rw [cD,← Int.natCast_ediv]
theorem pj (m d:Nat):(m:Int)*2 ^ d=((m*2 ^ d:Nat):Int):=by
 rw [cD,← Int.natCast_mul]
theorem Fd (m d:Nat):(m:Int) - ((m / 2 ^ d*2 ^ d:Nat):Int)=((m % 2 ^ d:Nat):Int):=by
 have:=Nat.div_add_mod m (2 ^ d);rw [Nat.mul_comm] at this;omega
theorem bL (m:Nat):0≤bq m:=by unfold bq;split <;> omega
theorem bK {m d:Nat} (h:m < 2 ^ d):bq m≤d:=by
 unfold bq;split
 ·omega
 ·rename_i h0;have:=(Nat.log2_lt h0).mpr h;omega
theorem cz {m d:Nat} (h:bq m≤d):m < 2 ^ d:=by
 unfold bq at h;split at h
 ·rename_i h0;rw [h0];exact Nat.two_pow_pos _
 ·rename_i h0;exact Nat.lt_of_lt_of_le (lR m) (Nat.pow_le_pow_right (by decide) (by omega))
theorem qA {m n:Nat} (h:m≤n):bq m≤bq n:=by
 have h1:n < 2 ^ (bq n).toNat:=cz (by have:=bL n;omega);have:=bK (Nat.lt_of_le_of_lt h h1);have:=bL n;omega
theorem Bg (m d:Nat):bq (m / 2 ^ d)≤bq m:=qA (Nat.div_le_self _ _)
theorem pk (m d:Nat):bq (m*2 ^ d)≤bq m+d:=by
 have h1:m < 2 ^ (bq m).toNat:=cz (by have:=bL m;omega);have h2:m*2 ^ d < 2 ^ ((bq m).toNat+d):=by
  rw [Nat.pow_add];exact Nat.mul_lt_mul_of_pos_right h1 (Nat.two_pow_pos _)
 have:=bK h2;have:=bL m;omega
theorem wH (m n:Nat):bq (m*n)≤bq m+bq n:=by
 have h1:m < 2 ^ (bq m).toNat:=cz (by have:=bL m;omega);have h2:n < 2 ^ (bq n).toNat:=cz (by have:=bL n;omega);have h3:m*n < 2 ^ ((bq m).toNat+(bq n).toNat):=by
  rw [Nat.pow_add];exact Nat.mul_lt_mul'' h1 h2
 have:=bK h3;have:=bL m;have:=bL n;omega
theorem wI (m n:Nat):bq (m+n)≤max (bq m) (bq n)+1:=by
 have h0:=bL m;have OZ:=bL n;have h1:m < 2 ^ (max (bq m) (bq n)).toNat:=cz (by omega);have h2:n < 2 ^ (max (bq m) (bq n)).toNat:=cz (by omega);have h3:m+n < 2 ^ ((max (bq m) (bq n)).toNat+1):=by
  rw [Nat.pow_succ];omega
 have:=bK h3;omega
theorem ue {way m:Nat} {neg:Bool} {D:Int} (hw:way≤3) (hD:0 < D) :
  cM way neg m D=if m % 2 ^ D.toNat=0 then m / 2 ^ D.toNat else
   if way=0 then (if (2 ^ (D - 1).toNat < m % 2 ^ D.toNat∨(m % 2 ^ D.toNat=2 ^ (D - 1).toNat∧m / 2 ^ D.toNat % 2=1)) then m / 2 ^ D.toNat+1 else m / 2 ^ D.toNat)
   else if (if neg=true then way=1 else way=2) then m / 2 ^ D.toNat+1 else m / 2 ^ D.toNat:=by
 have e:2 ^ D.toNat=2*2 ^ (D - 1).toNat:=by
  rw [show D.toNat=(D - 1).toNat+1 by omega,Nat.pow_succ,Nat.mul_comm]
 rw [hU hD];unfold more;generalize m % 2 ^ D.toNat=r at *
 generalize m / 2 ^ D.toNat=q at *
 generalize 2 ^ (D - 1).toNat=hh at *
 generalize 2 ^ D.toNat=d at *
 subst e;by_cases hr:r=0
 ·simp [hr]
 ·simp only [hr,if_false];by_cases Sg:way=0
  ·subst Sg;simp only [if_true,Bool.or_eq_true,Bool.and_eq_true,decide_eq_true_eq];by_cases h1:hh < r
   ·simp [h1,show 2*hh < 2*r by omega]
   ·by_cases h2:r=hh
    ·subst h2;simp
    ·have:¬ 2*hh < 2*r:=by omega
     have:¬ 2*r=2*hh:=by omega
     simp [*]
  ·simp only [Sg,if_false];by_cases h1:way=1
   ·subst h1;cases neg <;> simp
   ·by_cases h2:way=2
    ·subst h2;cases neg <;> simp
    ·cases neg <;> simp [h1,h2]
theorem cN {k:Nat} (h:Bk k) (neg:Bool) (m:Nat) (e:Int):near k (.fin neg m e)=rounded k 0 neg m e:=by
 unfold near made;rw [h.broken];rfl
theorem cO {k:Nat} (h:Bk k) (neg:Bool):near k (.inf neg)=sign k neg (infinity k):=by
 unfold near made;rw [h.broken];rfl
theorem bS {k:Nat} (h:Bk k):near k .nan=plain k:=by
 unfold near made;rw [h.broken];rfl
theorem bN (k w:Nat) (neg:Bool) (e:Int):rounded k w neg 0 e=sign k neg 0:=by unfold rounded;rw [if_pos rfl]
noncomputable abbrev Vb (k b:Nat):Prop:=b < 2*bp k
theorem lS (k:Nat):0 < bp k:=Nat.two_pow_pos _
theorem lT {k b:Nat} (hb:Vb k b):b=sign k (a9 k b) (aq k b):=by
 have hp:=lS k;unfold sign a9 aq;by_cases h:bp k≤b
 ·rw [decide_eq_true h,if_pos rfl];have e:b % bp k=b - bp k:=by
   rw [Nat.mod_eq_sub_mod h,Nat.mod_eq_of_lt (by omega)]
  rw [e];show b=b - bp k+bp k;omega
 ·rw [decide_eq_false h,if_neg (by decide),Nat.mod_eq_of_lt (by omega)]
theorem wd (k b:Nat):aq k b < bp k:=Nat.mod_lt _ (lS k)
theorem wg {k r:Nat} {neg:Bool} (h:r < bp k):Vb k (sign k neg r):=by
 unfold sign;split
 ·show r+bp k < _;omega
 ·show r < _;omega
theorem fv {k r:Nat} {neg:Bool} (h:r < bp k):aq k (sign k neg r)=r:=by
 unfold sign aq;split
 ·show (r+bp k) % bp k=r;rw [Nat.add_mod_right,Nat.mod_eq_of_lt h]
 ·exact Nat.mod_eq_of_lt h
theorem nq {k r:Nat} {neg:Bool} (h:r < bp k):a9 k (sign k neg r)=neg:=by
 unfold sign a9;cases neg
 ·simp;exact h
 ·simp;show bp k≤r+bp k;omega
theorem Fe {k:Nat} (h:Bk k) (neg:Bool):worth k (sign k neg (infinity k))=.inf neg:=by
 have hi:=rO h;rcases aY (b:=sign k neg (infinity k)) h with ⟨h1,_⟩ | ⟨_,h2⟩ | ⟨h1,_⟩
 ·rw [fv hi] at h1;omega
 ·rw [h2,nq hi]
 ·rw [fv hi] at h1;omega
theorem Bh {k:Nat} (h:Bk k):worth k (plain k)=.nan:=by
 have hi:=Be h;have hj:=zT h;have e:aq k (plain k)=plain k:=Nat.mod_eq_of_lt hi;rcases aY (b:=plain k) h with ⟨h1,_⟩ | ⟨h1,_⟩ | ⟨_,h2⟩
 ·rw [e] at h1;omega
 ·rw [e] at h1;omega
 ·exact h2
theorem Bi {k:Nat} (h:Bk k):Vb k (plain k):=by have:=Be h;unfold Vb;omega
theorem fA {k r:Nat}:aS k r=0↔r=0:=by
 unfold aS cV;have hp:0 < 2 ^ (digits k - 1):=Nat.two_pow_pos _;have hd:=Nat.div_add_mod r (2 ^ (digits k - 1));generalize r / 2 ^ (digits k - 1)=x at *
 generalize r % 2 ^ (digits k - 1)=y at *
 generalize 2 ^ (digits k - 1)=t at *
 constructor
 ·intro h;cases x with
  | zero=>simp at h hd;omega
  | succ x =>
   have e:t*(x+1)=x*t+t:=by rw [Nat.mul_add,Nat.mul_comm];omega
   simp at h;omega
 ·intro h;omega
theorem qB {k r:Nat} (hk:Bk k):aS k r < 2 ^ digits k:=by
 unfold aS cV;have hp:0 < 2 ^ (digits k - 1):=Nat.two_pow_pos _;have hd:=Nat.div_add_mod r (2 ^ (digits k - 1));have hm:=Nat.mod_lt r hp;have O0:=dj hk;have e2:2 ^ digits k=2*2 ^ (digits k - 1):=by
  rw [show digits k=(digits k - 1)+1 by omega,Nat.pow_succ,Nat.mul_comm];simp
 rw [e2];generalize r / 2 ^ (digits k - 1)=x at *
 generalize r % 2 ^ (digits k - 1)=y at *
 generalize 2 ^ (digits k - 1)=t at *
 cases x with
 | zero=>simp at hd ⊢;omega
 | succ x =>
  have e:t*(x+1)=x*t+t:=by rw [Nat.mul_add,Nat.mul_comm];omega
  simp;omega
theorem zf {k r:Nat} (hk:Bk k):bq (aS k r)≤53:=by
 have h:=bK (qB (r:=r) hk);have O0:=dj hk;omega
theorem GW {k r:Nat} (hk:Bk k) (hr:r < bp k):-1074≤bP k r∧bP k r≤1100:=by
 have h1:cV k r≤top k:=by
  unfold cV;have:r / 2 ^ (digits k - 1) < top k+1:=Nat.div_lt_of_lt_mul (by rw [Nat.mul_comm,← qz hk];exact hr);omega
 unfold bP;rcases hk with rfl | rfl | rfl
 ·have e1:bj 6=-24:=by decide
  have e2:top 6=31:=by decide
  omega
 ·have e1:bj 7=-149:=by decide
  have e2:top 7=255:=by decide
  omega
 ·have e1:bj 8=-1074:=by decide
  have e2:top 8=2047:=by decide
  omega
noncomputable def fsum (a:Bool) (m:Nat) (e:Int) (b:Bool) (n:Nat) (f:Int):Bool×Nat×Int :=
 let u:=min e f
 let s:=at_ a m e u+at_ b n f u
 if s=0 then (a&&b,0,u) else (decide (s < 0),s.natAbs,u)
theorem zg {k:Nat} (hk:Bk k) (a:Bool) (m:Nat) (e:Int) (b:Bool) (n:Nat) (f:Int) :
  near k (plus (.fin a m e) (.fin b n f))=rounded k 0 (fsum a m e b n f).1 (fsum a m e b n f).2.1 (fsum a m e b n f).2.2:=by
 by_cases h:at_ a m e (min e f)+at_ b n f (min e f)=0
 ·have e1:fsum a m e b n f=(a&&b,0,min e f):=by unfold fsum;simp only [h,if_true]
  rw [e1];show near k (unitsOf (at_ a m e (min e f)+at_ b n f (min e f)) (min e f) (a&&b))=_;unfold unitsOf;rw [if_pos h,cN hk,bN,bN]
 ·have e1:fsum a m e b n f=(decide (at_ a m e (min e f)+at_ b n f (min e f) < 0),(at_ a m e (min e f)+at_ b n f (min e f)).natAbs,min e f):=by unfold fsum;simp only [h,if_false]
  rw [e1];show near k (unitsOf (at_ a m e (min e f)+at_ b n f (min e f)) (min e f) (a&&b))=_;unfold unitsOf;rw [if_neg h,cN hk]
theorem GX {k a b:Nat} (hk:Bk k) (ha:Vb k a) (hb:Vb k b):near k (plus (worth k a) (worth k b)) =
  if infinity k < aq k a∨infinity k < aq k b then plain k else if aq k a=infinity k then (if aq k b=infinity k∧a≠b then plain k else a) else if aq k b=infinity k then b else
  rounded k 0 (fsum (a9 k a) (aS k (aq k a)) (bP k (aq k a)) (a9 k b) (aS k (aq k b)) (bP k (aq k b))).1 (fsum (a9 k a) (aS k (aq k a)) (bP k (aq k a)) (a9 k b) (aS k (aq k b)) (bP k (aq k b))).2.1
   (fsum (a9 k a) (aS k (aq k a)) (bP k (aq k a)) (a9 k b) (aS k (aq k b)) (bP k (aq k b))).2.2:=by
 have ea:=lT ha;have eb:=lT hb;rcases aY (b:=a) hk with ⟨h1,w1⟩ | ⟨h1,w1⟩ | ⟨h1,w1⟩ <;> rcases aY (b:=b) hk with ⟨h2,w2⟩ | ⟨h2,w2⟩ | ⟨h2,w2⟩
 ·rw [w1,w2,zg hk,if_neg (by omega),if_neg (by omega),if_neg (by omega)]
 ·rw [w1,w2,if_neg (by omega),if_neg (by omega),if_pos h2];show near k (.inf (a9 k b))=b;rw [cO hk,← h2,← eb]
 ·rw [w1,w2,if_pos (by omega)];show near k .nan=_;rw [bS hk]
 ·rw [w1,w2,if_neg (by omega),if_pos h1,if_neg (by omega)];show near k (.inf (a9 k a))=a;rw [cO hk,← h1,← ea]
 ·rw [w1,w2,if_neg (by omega),if_pos h1];show near k (if a9 k a=a9 k b then .inf (a9 k a) else .nan)=_;by_cases hn:a9 k a=a9 k b
  ·have JE:a=b:=by rw [ea,eb,h1,h2,hn]
   rw [if_pos hn,if_neg (by rw [JE];simp),cO hk,← h1,← ea]
  ·have JE:a≠b:=fun e=>hn (by rw [e]);rw [if_neg hn,if_pos ⟨h2,JE⟩,bS hk]
 ·rw [w1,w2,if_pos (by omega)];show near k .nan=_;rw [bS hk]
 ·rw [w1,if_pos (by omega)];show near k .nan=_;rw [bS hk]
 ·rw [w1,if_pos (by omega)];show near k .nan=_;rw [bS hk]
 ·rw [w1,if_pos (by omega)];show near k .nan=_;rw [bS hk]
noncomputable def pq (k b:Nat):Nat:=(b+bp k) % (2*bp k)
theorem Ed {k b:Nat} (hb:Vb k b):pq k b=sign k (!a9 k b) (aq k b):=by
 have hp:=lS k;have hr:=wd k b;have e:=lT hb;unfold pq;generalize aq k b=r at *
 generalize a9 k b=n at *
 subst e;cases n
 ·show (r+bp k) % (2*bp k)=r+bp k;exact Nat.mod_eq_of_lt (by omega)
 ·show (r+bp k+bp k) % (2*bp k)=r;rw [show r+bp k+bp k=r+2*bp k by omega,Nat.add_mod_right,Nat.mod_eq_of_lt (by omega)]
theorem JF (k b:Nat):Vb k (pq k b):=Nat.mod_lt _ (by have:=lS k;omega)
theorem rQ {k b:Nat} (hk:Bk k) (hb:Vb k b):worth k (pq k b)=minus (worth k b):=by
 have hr:=wd k b;have e1:aq k (pq k b)=aq k b:=by rw [Ed hb,fv hr]
 have e2:a9 k (pq k b)=!a9 k b:=by rw [Ed hb,nq hr]
 rcases aY (b:=b) hk with ⟨h1,w1⟩ | ⟨h1,w1⟩ | ⟨h1,w1⟩ <;> rcases aY (b:=pq k b) hk with ⟨h2,w2⟩ | ⟨h2,w2⟩ | ⟨h2,w2⟩ <;> rw [e1] at h2 <;> first | omega | (rw [w1,w2];simp only [e1,e2,minus])
theorem uf (a:Bool) (m:Nat) (e u:Int):(at_ a m e u).natAbs=m*2 ^ (e - u).toNat:=by
 unfold at_;cases a
 ·simp only [Bool.false_eq_true,if_false];rw [← Int.natCast_mul];exact Int.natAbs_natCast _
 ·simp only [if_true];rw [← Int.natCast_mul,Int.natAbs_neg];exact Int.natAbs_natCast _
theorem Ee {a b:Bool} {m n:Nat} {e f:Int} (h1:bq m≤20000) (h2:bq n≤20000) (h3:-10000≤e) (h4:e≤10000) (h5:-10000≤f) (h6:f≤10000) :
  bq (fsum a m e b n f).2.1≤60000∧-30000≤(fsum a m e b n f).2.2∧(fsum a m e b n f).2.2≤30000:=by
 have b1:bq (at_ a m e (min e f)).natAbs≤40000:=by
  rw [uf];have:=pk m (e - min e f).toNat;omega
 have b2:bq (at_ b n f (min e f)).natAbs≤40000:=by
  rw [uf];have:=pk n (f - min e f).toNat;omega
 have b3:bq (at_ a m e (min e f)+at_ b n f (min e f)).natAbs≤40001:=by
  have:=qA (Int.natAbs_add_le (at_ a m e (min e f)) (at_ b n f (min e f)));have:=wI (at_ a m e (min e f)).natAbs (at_ b n f (min e f)).natAbs;omega
 unfold fsum;by_cases h:at_ a m e (min e f)+at_ b n f (min e f)=0
 ·simp only [h,if_true];refine ⟨by decide,by omega,by omega⟩
 ·simp only [h,if_false];exact ⟨by omega,by omega,by omega⟩
theorem hV (neg:Bool) (m:Nat) (e:Int):isZero (.fin neg m e)=decide (m=0):=by
 cases m <;> rfl
theorem GY {k a b:Nat} (hk:Bk k) (ha:¬ infinity k < aq k a) (hb:¬ infinity k < aq k b):near k (times (worth k a) (worth k b)) =
  if aq k a=infinity k∨aq k b=infinity k then (if aq k a=0∨aq k b=0 then plain k else sign k (a9 k a != a9 k b) (infinity k)) else
  rounded k 0 (a9 k a != a9 k b) (aS k (aq k a)*aS k (aq k b)) (bP k (aq k a)+bP k (aq k b)):=by
 have hi:=rO hk;have Bj:infinity k≠0:=by rcases hk with rfl | rfl | rfl <;> decide
 have z:∀ x,aq k x < infinity k→isZero (.fin (a9 k x) (aS k (aq k x)) (bP k (aq k x)))=decide (aq k x=0):=fun x _=>by
  rw [hV];exact decide_eq_decide.mpr fA
 rcases aY (b:=a) hk with ⟨h1,w1⟩ | ⟨h1,w1⟩ | ⟨h1,w1⟩ <;> rcases aY (b:=b) hk with ⟨h2,w2⟩ | ⟨h2,w2⟩ | ⟨h2,w2⟩ <;> try omega
 ·rw [w1,w2,if_neg (by omega)];exact cN hk _ _ _
 ·rw [w1,w2,if_pos (.inr h2)];show near k (if isZero _=true∨isZero (.inf _)=true then .nan else .inf _)=_;rw [z a h1,h2];have e:((decide (aq k a=0))=true∨isZero (.inf (a9 k b))=true)↔(aq k a=0∨infinity k=0):=by simp [isZero,Bj]
  by_cases c:aq k a=0∨infinity k=0
  ·rw [if_pos (e.mpr c),if_pos c,bS hk]
  ·rw [if_neg (fun q=>c (e.mp q)),if_neg c,cO hk];rfl
 ·rw [w1,w2,if_pos (.inl h1)];show near k (if isZero (.inf _)=true∨isZero _=true then .nan else .inf _)=_;rw [z b h2,h1];have e:(isZero (.inf (a9 k a))=true∨(decide (aq k b=0))=true)↔(infinity k=0∨aq k b=0):=by simp [isZero,Bj]
  by_cases c:infinity k=0∨aq k b=0
  ·rw [if_pos (e.mpr c),if_pos c,bS hk]
  ·rw [if_neg (fun q=>c (e.mp q)),if_neg c,cO hk];rfl
 ·rw [w1,w2,if_pos (.inl h1)];show near k (if isZero (.inf (a9 k a))=true∨isZero (.inf (a9 k b))=true then .nan else .inf (a9 k a != a9 k b))=_;rw [if_neg (by simp [isZero]),if_neg (by omega),cO hk]
noncomputable def K2 (a b:Nat):Nat:=if b < 2*(a % b)∨(2*(a % b)=b∧a / b % 2=1) then a / b+1 else a / b
theorem Ff {a b c:Nat} (hc:0 < c):K2 (c*a) (c*b)=K2 a b:=by
 unfold K2;rw [Nat.mul_div_mul_left _ _ hc,Nat.mul_mod_mul_left];have e1:(c*b < 2*(c*(a % b)))↔b < 2*(a % b):=by
  rw [show 2*(c*(a % b))=c*(2*(a % b)) by rw [Nat.mul_left_comm]];exact Nat.mul_lt_mul_left hc
 have e2:(2*(c*(a % b))=c*b)↔2*(a % b)=b:=by
  rw [show 2*(c*(a % b))=c*(2*(a % b)) by rw [Nat.mul_left_comm]];exact Nat.mul_right_inj (by omega)
 simp only [e1,e2]
noncomputable def cY (x n:Nat):Nat:=2*(x / n)+(if x % n=0 then 0 else 1)
theorem zh {neg:Bool} {m:Nat} {D:Int} (hD:0 < D):cM 0 neg m D=K2 m (2 ^ D.toNat):=by
 rw [hU hD];unfold K2 more;have hp:0 < 2 ^ D.toNat:=Nat.two_pow_pos _;by_cases hr:m % 2 ^ D.toNat=0
 ·rw [if_pos hr,hr];simp;omega
 ·rw [if_neg hr];simp
theorem wJ {x n:Nat} (hn:0 < n) (d:Nat):K2 (cY x n) (2 ^ (d+2))=K2 x (n*2 ^ (d+1)):=by
 have hp:0 < 2 ^ (d+1):=Nat.two_pow_pos _;unfold cY;generalize hq:x / n=q;generalize hr:x % n=r;have hx:x=n*q+r:=by rw [← hq,← hr];exact (Nat.div_add_mod x n).symm
 have XD:r < n:=by rw [← hr];exact Nat.mod_lt _ hn
 generalize hs:(if r=0 then 0 else 1)=st;have Jr:st=0∧r=0∨st=1∧0 < r:=by
  by_cases h:r=0
  ·left;rw [if_pos h] at hs;exact ⟨hs.symm,h⟩
  ·right;rw [if_neg h] at hs;exact ⟨hs.symm,by omega⟩
 -- q by 2^(d+1)
 have Sh:=Nat.div_add_mod q (2 ^ (d+1));have Qa:=Nat.mod_lt q hp;generalize hQ:q / 2 ^ (d+1)=Q at *
 generalize hR:q % 2 ^ (d+1)=R at *
 have e2:2 ^ (d+2)=2*2 ^ (d+1):=by rw [Nat.pow_succ,Nat.mul_comm]
 have ev:∃ t,2 ^ (d+1)=2*t:=⟨2 ^ d,by rw [Nat.pow_succ,Nat.mul_comm]⟩;rw [e2];generalize 2 ^ (d+1)=M at *
 obtain ⟨t,ht⟩:=ev;have a1:(2*q+st) / (2*M)=Q∧(2*q+st) % (2*M)=2*R+st:=by
  have:2*q+st=2*M*Q+(2*R+st):=by rw [← Sh,Nat.mul_add,Nat.mul_assoc];omega
  rw [this];have iD:2*R+st < 2*M:=by omega
  exact ⟨by rw [Nat.mul_add_div (by omega),Nat.div_eq_of_lt iD];rfl,by rw [Nat.mul_add_mod,Nat.mod_eq_of_lt iD]⟩
 have a2:x / (n*M)=Q∧x % (n*M)=n*R+r:=by
  have:x=n*M*Q+(n*R+r):=by rw [hx,← Sh,Nat.mul_add,Nat.mul_assoc];omega
  rw [this];have iD:n*R+r < n*M:=by
   have:n*(R+1)≤n*M:=Nat.mul_le_mul_left _ Qa;rw [Nat.mul_add] at this;omega
  have Ue:0 < n*M:=Nat.mul_pos hn (by omega);exact ⟨by rw [Nat.mul_add_div Ue,Nat.div_eq_of_lt iD];rfl,by rw [Nat.mul_add_mod,Nat.mod_eq_of_lt iD]⟩
 unfold K2;rw [a1.1,a1.2,a2.1,a2.2];have c1:(2*M < 2*(2*R+st))↔n*M < 2*(n*R+r):=by
  subst ht;constructor
  ·intro h;rcases Nat.lt_or_ge t R with h1 | h1
   ·have:n*(t+1)≤n*R:=Nat.mul_le_mul_left _ h1;rw [Nat.mul_add] at this;have e:n*(2*t)=2*(n*t):=Nat.mul_left_comm _ _ _;omega
   ·have kP:R=t:=by omega
    subst kP;have e:n*(2*R)=2*(n*R):=Nat.mul_left_comm _ _ _;omega
  ·intro h;have e:n*(2*t)=2*(n*t):=Nat.mul_left_comm _ _ _;rcases Nat.lt_trichotomy R t with h1 | h1 | h1
   ·have:n*(R+1)≤n*t:=Nat.mul_le_mul_left _ h1;rw [Nat.mul_add] at this;omega
   ·subst h1;omega
   ·omega
 have c2:(2*(2*R+st)=2*M)↔2*(n*R+r)=n*M:=by
  subst ht;have e:n*(2*t)=2*(n*t):=Nat.mul_left_comm _ _ _;constructor
  ·intro h;have Ug:st=0:=by omega
   have kP:R=t:=by omega
   subst kP;omega
  ·intro h;rcases Nat.lt_trichotomy R t with h1 | h1 | h1
   ·have:n*(R+1)≤n*t:=Nat.mul_le_mul_left _ h1;rw [Nat.mul_add] at this;omega
   ·subst h1;omega
   ·have:n*(t+1)≤n*R:=Nat.mul_le_mul_left _ h1;rw [Nat.mul_add] at this;omega
 simp only [c1,c2]
theorem iF {q:Nat} (h:0 < q):bq q=(Nat.log2 q:Int)+1:=by unfold bq;rw [if_neg (by omega)]
theorem zi {q b:Nat} (h1:2 ^ b≤q) (h2:q < 2 ^ (b+1)):bq q=(b:Int)+1:=by
 have hq:0 < q:=Nat.lt_of_lt_of_le (Nat.two_pow_pos b) h1;rw [iF hq];have:Nat.log2 q=b:=by
  have a1:b≤Nat.log2 q:=(Nat.le_log2 (by omega)).mpr h1;have a2:Nat.log2 q < b+1:=(Nat.log2_lt (by omega)).mpr h2;omega
 rw [this]
theorem u9 {x n:Nat} (h:0 < x / n):bq (cY x n)=bq (x / n)+1:=by
 have a1:=Nat.log2_self_le (n:=x / n) (by omega);have a2:=lR (x / n);rw [iF h];unfold cY;have:(if x % n=0 then 0 else 1)≤1:=by split <;> omega
 generalize (if x % n=0 then 0 else 1)=st at *
 have:=zi (q:=2*(x / n)+st) (b:=Nat.log2 (x / n)+1) (by rw [Nat.pow_succ];omega) (by rw [Nat.pow_succ] at a2 ⊢;omega);omega
theorem va {x n d:Nat} (hn:0 < n) (h:0 < x / n):bq (x*2 ^ d / n)=bq (x / n)+d:=by
 have a1:=Nat.log2_self_le (n:=x / n) (by omega);have a2:=lR (x / n);have hp:0 < 2 ^ d:=Nat.two_pow_pos d;have b1:x / n*2 ^ d≤x*2 ^ d / n:=by
  rw [Nat.le_div_iff_mul_le hn,Nat.mul_right_comm];exact Nat.mul_le_mul_right _ (Nat.div_mul_le_self x n)
 have b2:x*2 ^ d / n < (x / n+1)*2 ^ d:=by
  rw [Nat.div_lt_iff_lt_mul hn,Nat.mul_right_comm];refine Nat.mul_lt_mul_of_pos_right ?_ hp;rw [Nat.add_mul,Nat.one_mul];have:=Nat.div_add_mod x n;have:=Nat.mod_lt x hn;rw [Nat.mul_comm (x / n)];omega
 rw [iF h];have:=zi (q:=x*2 ^ d / n) (b:=Nat.log2 (x / n)+d)
  (by rw [Nat.pow_add];exact Nat.le_trans (Nat.mul_le_mul_right _ a1) b1)
  (by
   rw [show Nat.log2 (x / n)+d+1=(Nat.log2 (x / n)+1)+d by omega,Nat.pow_add];exact Nat.lt_of_lt_of_le b2 (Nat.mul_le_mul_right _ a2))
 omega
theorem wK {k:Nat} {neg:Bool} {x n d:Nat} {e:Int} (hk:Bk k) (hn:0 < n) (h:2 ^ digits k≤x / n) :
  rounded k 0 neg (cY (x*2 ^ d) n) (e - d)=rounded k 0 neg (cY x n) e:=by
 have Bf:0 < x / n:=Nat.lt_of_lt_of_le (Nat.two_pow_pos _) h;have hb:=va (d:=d) hn Bf;have NF:0 < x*2 ^ d / n:=by
  have h1:=bL (x / n);have h2:bq (x / n)=(Nat.log2 (x / n):Int)+1:=iF Bf;rcases Nat.eq_zero_or_pos (x*2 ^ d / n) with h0 | h0
  ·rw [h0] at hb;have:bq 0=0:=rfl;omega
  ·exact h0
 have s1:=u9 Bf;have s2:=u9 NF;have K3:(digits k:Int)+1≤bq (x / n):=by
  rcases Int.lt_or_le (bq (x / n)) ((digits k:Int)+1) with h1 | h1
  ·have:=cz (m:=x / n) (d:=digits k) (by omega);omega
  ·exact h1
 have Uh:cY x n≠0:=by unfold cY;omega
 have Ui:cY (x*2 ^ d) n≠0:=by unfold cY;omega
 rw [ee hk Uh,ee hk Ui];have hD:aW k (cY (x*2 ^ d) n) (e - d)=aW k (cY x n) e+d:=by
  unfold aW;omega
 have rP:2≤aW k (cY x n) e:=by unfold aW;omega
 have key:bR k 0 neg (cY (x*2 ^ d) n) (e - d)=bR k 0 neg (cY x n) e:=by
  unfold bR;rw [hD];generalize aW k (cY x n) e=D at *
  obtain ⟨g,rfl⟩:∃ g:Nat,D=(g:Int)+2:=⟨(D - 2).toNat,by omega⟩;rw [show e - d+((g:Int)+2+d) - bj k=e+((g:Int)+2) - bj k by omega]
  congr 1
  rw [zh (by omega),zh (by omega)];rw [show ((g:Int)+2).toNat=g+2 by omega,show ((g:Int)+2+d).toNat=(g+d)+2 by omega];rw [wJ hn,wJ hn];rw [show g+d+1=(g+1)+d by omega,Nat.pow_add,← Nat.mul_assoc,Nat.mul_comm x,Nat.mul_comm (n*2 ^ (g+1))];exact Ff (Nat.two_pow_pos d)
 rw [key]
theorem GZ {k:Nat} {neg:Bool} {m n s t:Nat} {E:Int} (hk:Bk k) (hn:0 < n) (h1:2 ^ digits k≤m*2 ^ s / n) (h2:2 ^ digits k≤m*2 ^ t / n) :
  rounded k 0 neg (cY (m*2 ^ s) n) (E - s - 1)=rounded k 0 neg (cY (m*2 ^ t) n) (E - t - 1):=by
 rcases Nat.le_total s t with h | h
 ·obtain ⟨d,rfl⟩:=Nat.exists_eq_add_of_le h;rw [Nat.pow_add,← Nat.mul_assoc,show E - ((s+d:Nat):Int) - 1=(E - s - 1) - d by omega,wK hk hn h1]
 ·obtain ⟨d,rfl⟩:=Nat.exists_eq_add_of_le h;rw [Nat.pow_add,← Nat.mul_assoc,show E - ((t+d:Nat):Int) - 1=(E - t - 1) - d by omega,wK hk hn h2]
theorem CD {w:Nat} {neg odd:Bool} {r d c:Nat} (hc:0 < c):more w neg odd (r*c) (d*c)=more w neg odd r d:=by
 unfold more;have e0:(r*c=0)↔r=0:=by
  constructor
  ·intro h;rcases Nat.mul_eq_zero.mp h with h | h <;> omega
  ·intro h;rw [h,Nat.zero_mul]
 have e1:decide (d*c < 2*(r*c))=decide (d < 2*r):=by
  rw [← Nat.mul_assoc];exact decide_eq_decide.mpr (Nat.mul_lt_mul_right hc)
 have e2:decide (2*(r*c)=d*c)=decide (2*r=d):=by
  rw [← Nat.mul_assoc];exact decide_eq_decide.mpr (Nat.mul_left_inj (by omega))
 simp only [e0,e1,e2]
theorem zU {w:Nat} {neg:Bool} {m d:Nat} {D:Int}:cM w neg (m*2 ^ d) (D+d)=cM w neg m D:=by
 by_cases h1:D+d≤0
 ·rw [du h1,du (by omega),Nat.mul_assoc,← Nat.pow_add]
  congr 2;omega
 ·by_cases h2:D≤0
  ·rw [hU (by omega),du h2];have e:m*2 ^ d=m*2 ^ (-D).toNat*2 ^ (D+d).toNat:=by
    rw [Nat.mul_assoc,← Nat.pow_add];congr 2;omega
   rw [e,Nat.mul_mod_left,Nat.mul_div_cancel _ (Nat.two_pow_pos _)];simp [more]
  ·rw [hU (by omega),hU (by omega)];have e:2 ^ (D+d).toNat=2 ^ D.toNat*2 ^ d:=by rw [← Nat.pow_add];congr 1;omega
   rw [e,Nat.mul_div_mul_right _ _ (Nat.two_pow_pos d),Nat.mul_mod_mul_right,CD (Nat.two_pow_pos d)]
theorem pw {m d:Nat} (h:m≠0):bq (m*2 ^ d)=bq m+d:=by
 have:=va (x:=m) (n:=1) (d:=d) (by decide) (by rw [Nat.div_one];omega);rw [Nat.div_one,Nat.div_one] at this;exact this
theorem jC {k w:Nat} {neg:Bool} {m d:Nat} {e:Int} (hk:Bk k):rounded k w neg (m*2 ^ d) (e - d)=rounded k w neg m e:=by
 by_cases hm:m=0
 ·subst hm;rw [Nat.zero_mul,bN,bN]
 ·have Uj:m*2 ^ d≠0:=by have:=Nat.mul_pos (Nat.pos_of_ne_zero hm) (Nat.two_pow_pos d);omega
  rw [ee hk hm,ee hk Uj];have hD:aW k (m*2 ^ d) (e - d)=aW k m e+d:=by unfold aW;rw [pw hm];omega
  have key:bR k w neg (m*2 ^ d) (e - d)=bR k w neg m e:=by
   unfold bR;rw [hD,zU];congr 3;omega
  rw [key]
noncomputable def JG (m:Nat) (e:Int) (n:Nat) (f:Int):Prop:=∃ u:Int,u≤e∧u≤f∧m*2 ^ (e - u).toNat=n*2 ^ (f - u).toNat
theorem JG.rounded {k w:Nat} {neg:Bool} {m n:Nat} {e f:Int} (hk:Bk k) (h:JG m e n f):rounded k w neg m e=rounded k w neg n f:=by
 obtain ⟨u,h1,h2,h3⟩:=h;have a1:=jC (w:=w) (neg:=neg) (m:=m) (d:=(e - u).toNat) (e:=e) hk;have a2:=jC (w:=w) (neg:=neg) (m:=n) (d:=(f - u).toNat) (e:=f) hk;rw [show e - ((e - u).toNat:Nat)=u by omega] at a1;rw [show f - ((f - u).toNat:Nat)=u by omega] at a2;rw [← a1,← a2,h3]
theorem jP (a:Bool) (m:Nat) {e u v:Int} (h1:v≤u) (h2:u≤e):at_ a m e v=at_ a m e u*(2 ^ (u - v).toNat:Nat):=by
 unfold at_;have e1:(e - v).toNat=(e - u).toNat+(u - v).toNat:=by omega
 rw [e1,Nat.pow_add,Int.natCast_mul,← Int.mul_assoc];cases a
 ·rfl
 ·simp only [if_true];rw [Int.neg_mul]
theorem wL (d:Nat):(0:Int) < ((2 ^ d:Nat):Int):=by have:=Nat.two_pow_pos d;omega
noncomputable def nU (k:Nat) (s u:Int) (z:Bool):Nat:=if s=0 then sign k z 0 else rounded k 0 (decide (s < 0)) s.natAbs u
theorem G0 {k:Nat} {s u v:Int} {z:Bool} (hk:Bk k) (h:v≤u):nU k (s*(2 ^ (u - v).toNat:Nat)) v z=nU k s u z:=by
 have hp:=wL (u - v).toNat;unfold nU;by_cases hs:s=0
 ·subst hs;simp
 ·have:s*((2 ^ (u - v).toNat:Nat):Int)≠0:=Int.mul_ne_zero hs (by omega);rw [if_neg this,if_neg hs];have e1:decide (s*((2 ^ (u - v).toNat:Nat):Int) < 0)=decide (s < 0):=by
   refine decide_eq_decide.mpr ⟨fun q=>?_,fun q=>?_⟩
   ·rcases Int.lt_or_le s 0 with h | h
    ·exact h
    ·have:=Int.mul_nonneg h (Int.le_of_lt hp);omega
   ·exact Int.mul_neg_of_neg_of_pos q hp
  have e2:(s*((2 ^ (u - v).toNat:Nat):Int)).natAbs=s.natAbs*2 ^ (u - v).toNat:=by rw [Int.natAbs_mul,Int.natAbs_natCast]
  rw [e1,e2];have:=jC (w:=0) (neg:=decide (s < 0)) (m:=s.natAbs) (d:=(u - v).toNat) (e:=u) hk;rw [show u - ((u - v).toNat:Nat)=v by omega] at this;exact this
theorem zV {k:Nat} (hk:Bk k) (s u:Int) (z:Bool):near k (unitsOf s u z)=nU k s u z:=by
 unfold unitsOf nU;by_cases h:s=0
 ·rw [if_pos h,if_pos h,cN hk,bN]
 ·rw [if_neg h,if_neg h,cN hk]
theorem sU {k:Nat} (hk:Bk k) (a:Bool) (m:Nat) (e:Int) (b:Bool) (n:Nat) (f:Int) {v:Int} (h1:v≤e) (h2:v≤f) :
  near k (plus (.fin a m e) (.fin b n f))=nU k (at_ a m e v+at_ b n f v) v (a&&b):=by
 show near k (unitsOf (at_ a m e (min e f)+at_ b n f (min e f)) (min e f) (a&&b))=_;have hv:v≤min e f:=by omega
 rw [zV hk,jP a m hv (Int.min_le_left _ _),jP b n hv (Int.min_le_right _ _),← Int.add_mul,G0 hk hv]
theorem JG.at {m n:Nat} {e f:Int} (h:JG m e n f):∃ v:Int,v≤e∧v≤f∧∀ w,w≤v→∀ a,at_ a m e w=at_ a n f w:=by
 obtain ⟨u,h1,h2,h3⟩:=h;refine ⟨u,h1,h2,fun w hw a=>?_⟩;rw [jP a m hw h1,jP a n hw h2]
 congr 1
 unfold at_;have e3:((m:Int)*((2 ^ (e - u).toNat:Nat):Int))=(n:Int)*((2 ^ (f - u).toNat:Nat):Int):=by
  rw [← Int.natCast_mul,← Int.natCast_mul,h3]
 simp only [e3]
theorem JG.plus {k:Nat} (hk:Bk k) {a b:Bool} {m n n':Nat} {e f f':Int} (h:JG n f n' f') :
  near k (plus (.fin a m e) (.fin b n f))=near k (plus (.fin a m e) (.fin b n' f')):=by
 obtain ⟨v,h1,h2,h3⟩:=h.at
 rw [sU hk a m e b n f (v:=min v e) (by omega) (by omega),sU hk a m e b n' f' (v:=min v e) (by omega) (by omega),h3 (min v e) (by omega) b]
theorem kQ {k:Nat} (hk:Bk k):2 ^ digits k=2*2 ^ (digits k - 1):=by
 have hd:=dj hk;rw [show digits k=(digits k - 1)+1 by omega,Nat.pow_succ,Nat.mul_comm];simp
theorem yK {k w:Nat} {neg:Bool} {m:Nat} {e:Int} (hk:Bk k) (hm:m≠0) (hD:aW k m e≤0) (hr:bR k w neg m e < infinity k) :
  worth k (rounded k w neg m e)=.fin neg (m*2 ^ (-aW k m e).toNat) (e+aW k m e):=by
 have hi:=rO hk;rw [ee hk hm,if_neg (by omega)];have iD:bR k w neg m e < bp k:=by omega
 have hd:=dj hk;have e2:=kQ hk;have rP:bj k - e≤aW k m e:=Int.le_max_right _ _;have OY:bq m - (digits k:Int)≤aW k m e:=Int.le_max_left _ _;have LC:aW k m e=bq m - (digits k:Int)∨aW k m e=bj k - e:=by unfold aW;omega
 have CG:bR k w neg m e=(e+aW k m e - bj k).toNat*2 ^ (digits k - 1)+m*2 ^ (-aW k m e).toNat:=by
  unfold bR;rw [du hD]
 have XE:=pw (d:=(-aW k m e).toNat) hm;have hq:m*2 ^ (-aW k m e).toNat < 2 ^ digits k:=cz (by omega);have Uk:aW k m e=bq m - (digits k:Int)→2 ^ (digits k - 1)≤m*2 ^ (-aW k m e).toNat:=by
  intro h;rcases Nat.lt_or_ge (m*2 ^ (-aW k m e).toNat) (2 ^ (digits k - 1)) with h3 | h3
  ·have:=bK h3;omega
  ·exact h3
 have hw:aq k (sign k neg (bR k w neg m e))=bR k w neg m e:=fv iD;rcases aY (b:=sign k neg (bR k w neg m e)) hk with ⟨_,h2⟩ | ⟨h1,_⟩ | ⟨h1,_⟩
 ·rw [h2,hw,nq iD];obtain ⟨A,hA⟩:∃ A:Nat,e+aW k m e - bj k=(A:Int):=⟨(e+aW k m e - bj k).toNat,by omega⟩;rw [hA,Int.toNat_natCast] at CG;generalize yJ:m*2 ^ (-aW k m e).toNat=q at *
  have hp:0 < 2 ^ (digits k - 1):=Nat.two_pow_pos _;have hdiv:bR k w neg m e / 2 ^ (digits k - 1)=A+q / 2 ^ (digits k - 1):=by
   rw [CG,Nat.add_comm,Nat.add_mul_div_right _ _ hp,Nat.add_comm]
  have JE:cV k (bR k w neg m e)=A:=by
   unfold cV;rw [hdiv];by_cases h3:q < 2 ^ (digits k - 1)
   ·rw [Nat.div_eq_of_lt h3];rcases LC with h | h
    ·have:=Uk h;omega
    ·omega
   ·have:q / 2 ^ (digits k - 1)=1:=by
     rw [show q=(q - 2 ^ (digits k - 1))+1*2 ^ (digits k - 1) by omega,Nat.add_mul_div_right _ _ hp,Nat.div_eq_of_lt (by omega)]
    omega
  have hs:aS k (bR k w neg m e)=q:=by unfold aS;rw [JE,CG];omega
  have Ul:bP k (bR k w neg m e)=e+aW k m e:=by unfold bP;rw [JE];omega
  rw [hs,Ul]
 ·rw [hw] at h1;omega
 ·rw [hw] at h1;omega
theorem sV {k w r:Nat} {neg:Bool} (hk:Bk k) (hr:r < infinity k):rounded k w neg (aS k r) (bP k r)=sign k neg r:=by
 by_cases hz:aS k r=0
 ·rw [hz,bN,fA.mp hz]
 ·rw [ee hk hz];have hd:=dj hk;have e2:=kQ hk;have hs:=bK (qB (r:=r) hk);have hp:0 < 2 ^ (digits k - 1):=Nat.two_pow_pos _;have GI:=Nat.div_add_mod r (2 ^ (digits k - 1));have NC:=Nat.mod_lt r hp;have hle:cV k r*2 ^ (digits k - 1)≤r:=Nat.le_trans (Nat.mul_le_mul_right _ (Nat.sub_le _ _)) (Nat.div_mul_le_self _ _);have hD:aW k (aS k r) (bP k r)=0:=by
   unfold aW bP;by_cases ha:cV k r=0
   ·rw [ha];omega
   ·have Um:2 ^ (digits k - 1)≤aS k r:=by
     unfold aS;obtain ⟨x,hx⟩:∃ x,r / 2 ^ (digits k - 1)=x+1:=⟨r / 2 ^ (digits k - 1) - 1,by unfold cV at ha;omega⟩;have:cV k r=x:=by unfold cV;rw [hx];rfl
     rw [this];rw [hx,Nat.mul_add,Nat.mul_comm] at GI;omega
    have hb:(digits k:Int)≤bq (aS k r):=by
     rcases Int.lt_or_le (bq (aS k r)) (digits k:Int) with h | h
     ·have:=cz (m:=aS k r) (d:=digits k - 1) (by omega);omega
     ·exact h
    omega
  have CG:bR k w neg (aS k r) (bP k r)=r:=by
   unfold bR;rw [hD,du (by omega)];have:(bP k r+0 - bj k).toNat=cV k r:=by unfold bP;omega
   rw [this];simp;unfold aS;omega
  rw [CG,if_neg (by omega)]
theorem nY {k b:Nat} (hk:Bk k) (hb:Vb k b) (hn:¬ infinity k < aq k b):near k (worth k b)=b:=by
 have e:=lT hb;rcases aY (b:=b) hk with ⟨h1,w1⟩ | ⟨h1,w1⟩ | ⟨h1,w1⟩
 ·rw [w1,cN hk,sV hk h1];exact e.symm
 ·rw [w1,cO hk,← h1];exact e.symm
 ·omega
theorem wM {k w:Nat} {neg:Bool} {m:Nat} {e:Int} (hk:Bk k):Vb k (rounded k w neg m e):=by
 have hi:=rO hk;by_cases hm:m=0
 ·rw [hm,bN];exact wg (by omega)
 ·rw [ee hk hm];refine wg ?_;split
  ·split <;> omega
  ·omega
theorem qC {k:Nat} (hk:Bk k) (x:Num):Vb k (near k x):=by
 cases x with
 | fin a m e=>rw [cN hk];exact wM hk
 | inf a=>rw [cO hk];exact wg (rO hk)
 | nan=>rw [bS hk];exact Bi hk
theorem Ef {k b:Nat} (hk:Bk k):worth k b=.nan↔infinity k < aq k b:=by
 rcases aY (b:=b) hk with ⟨h1,w1⟩ | ⟨h1,w1⟩ | ⟨h1,w1⟩ <;> rw [w1] <;> simp <;> omega
theorem wN {k b:Nat} (hk:Bk k):isZero (worth k b)=decide (aq k b=0):=by
 have Bj:infinity k≠0:=by rcases hk with rfl | rfl | rfl <;> decide
 rcases aY (b:=b) hk with ⟨h1,w1⟩ | ⟨h1,w1⟩ | ⟨h1,w1⟩
 ·rw [w1,hV];exact decide_eq_decide.mpr fA
 ·rw [w1,h1];simp [isZero,Bj]
 ·rw [w1];simp [isZero];omega
theorem JH {k a b:Nat} (hk:Bk k) (ha:¬ infinity k < aq k a) (hb:¬ infinity k < aq k b) {t:Nat} (ht:(t:Int)=(digits k:Int)+2+bq (aS k (aq k b)) - bq (aS k (aq k a))):near k (over_ (worth k a) (worth k b)) =
  if aq k a=infinity k then (if aq k b=infinity k then plain k else sign k (a9 k a != a9 k b) (infinity k))
  else if aq k b=0 then (if aq k a=0 then plain k else sign k (a9 k a != a9 k b) (infinity k))
  else if aq k b=infinity k∨aq k a=0 then sign k (a9 k a != a9 k b) 0
  else rounded k 0 (a9 k a != a9 k b) (cY (aS k (aq k a)*2 ^ t) (aS k (aq k b))) (bP k (aq k a) - bP k (aq k b) - t - 1):=by
 have Bj:infinity k≠0:=by rcases hk with rfl | rfl | rfl <;> decide
 rcases aY (b:=a) hk with ⟨h1,w1⟩ | ⟨h1,w1⟩ | ⟨h1,w1⟩ <;> rcases aY (b:=b) hk with ⟨h2,w2⟩ | ⟨h2,w2⟩ | ⟨h2,w2⟩ <;> try omega
 ·rw [w1,w2,if_neg (by omega)];have z1:=fA (k:=k) (r:=aq k a);have z2:=fA (k:=k) (r:=aq k b);have XF:=qB (r:=aq k a) hk;have Qb:=qB (r:=aq k b) hk;generalize aS k (aq k a)=m at *
  generalize aS k (aq k b)=n at *
  generalize bP k (aq k a)=e at *
  generalize bP k (aq k b)=f at *
  by_cases hn:n=0
  ·rw [if_pos (z2.mp hn)];subst hn;by_cases hm:m=0
   ·subst hm;rw [if_pos (z1.mp rfl)];show near k .nan=_;exact bS hk
   ·rw [if_neg (fun q=>hm (z1.mpr q))];rw [show over_ (.fin (a9 k a) m e) (.fin (a9 k b) 0 f)=.inf (a9 k a != a9 k b) from by simp [over_,hm]];exact cO hk _
  ·rw [if_neg (fun q=>hn (z2.mpr q))];have JI:0 < n:=by omega
   show near k (if n=0 then _ else .fin (a9 k a != a9 k b) (cY (m*2 ^ (64+Nat.log2 n+1)) n) (e - f - ((64+Nat.log2 n+1:Nat):Int) - 1))=_;rw [if_neg hn,cN hk];by_cases hm:m=0
   ·rw [if_pos (.inr (z1.mp hm))];subst hm;unfold cY;simp;exact bN _ _ _ _
   ·rw [if_neg (by rintro (q | q);omega;exact hm (z1.mpr q))];have hd:=dj hk;have bm:=iF (Nat.pos_of_ne_zero hm);have bn:=iF JI;have O1:=lR n;have NC:=pf hm;refine GZ hk JI ?_ ?_
    ·rw [Nat.le_div_iff_mul_le JI];have e1:2 ^ (64+Nat.log2 n+1)=2 ^ 64*2 ^ (Nat.log2 n+1):=by rw [← Nat.pow_add];congr 1
     have e2:2 ^ digits k≤2 ^ 64:=Nat.pow_le_pow_right (by decide) (by omega);have e3:2 ^ digits k*n≤2 ^ 64*2 ^ (Nat.log2 n+1):=Nat.mul_le_mul e2 (Nat.le_of_lt O1);rw [e1];exact Nat.le_trans e3 (Nat.le_mul_of_pos_left _ (by omega))
    ·rw [Nat.le_div_iff_mul_le JI];have e1:2 ^ digits k*n≤2 ^ digits k*2 ^ (Nat.log2 n+1):=Nat.mul_le_mul_left _ (Nat.le_of_lt O1);have e2:2 ^ digits k*2 ^ (Nat.log2 n+1)=2 ^ (digits k+(Nat.log2 n+1)):=(Nat.pow_add _ _ _).symm;have e3:2 ^ (digits k+(Nat.log2 n+1))≤2 ^ (Nat.log2 m+t):=Nat.pow_le_pow_right (by decide) (by omega);have e4:2 ^ (Nat.log2 m+t)=2 ^ Nat.log2 m*2 ^ t:=Nat.pow_add _ _ _;have e5:2 ^ Nat.log2 m*2 ^ t≤m*2 ^ t:=Nat.mul_le_mul_right _ NC;omega
 ·rw [w1,w2,if_neg (by omega),if_neg (by omega),if_pos (.inl h2)];show near k (.fin (a9 k a != a9 k b) 0 0)=_;rw [cN hk,bN]
 ·rw [w1,w2,if_pos h1,if_neg (by omega)];exact cO hk _
 ·rw [w1,w2,if_pos h1,if_pos h2];exact bS hk
theorem rm {k a b:Nat} (hk:Bk k) (h:infinity k < aq k a):worth k a=.nan:=(Ef hk).mpr h
noncomputable def dD (k b:Nat):Int:=if bp k≤b then (bp k:Int) - 1 - b else b
theorem Eg {k b:Nat} (hb:Vb k b):dD k b=if a9 k b=true then -(aq k b:Int) - 1 else (aq k b:Int):=by
 have e:=lT hb;unfold dD;by_cases h:bp k≤b
 ·have hn:a9 k b=true:=decide_eq_true h;rw [if_pos h,if_pos hn];rw [hn] at e;have:b=aq k b+bp k:=e;omega
 ·have hn:a9 k b=false:=decide_eq_false h;rw [if_neg h,if_neg (by rw [hn];decide)];rw [hn] at e;have:b=aq k b:=e;omega
noncomputable def vN (k r:Nat):Nat:=aS k r*2 ^ cV k r
theorem Eh (k r:Nat):vN k r < vN k (r+1):=by
  have hp:0 < 2 ^ (digits k - 1):=Nat.two_pow_pos _;have GI:=Nat.div_add_mod r (2 ^ (digits k - 1));have NC:=Nat.mod_lt r hp;have Uo:=Nat.div_add_mod (r+1) (2 ^ (digits k - 1));have Up:=Nat.mod_lt (r+1) hp;unfold vN aS cV;generalize 2 ^ (digits k - 1)=t at *
  have hx:((r+1) / t=r / t∧(r+1) % t=r % t+1)∨((r+1) / t=r / t+1∧(r+1) % t=0∧r % t=t - 1):=by
    by_cases h:r % t+1 < t
    · left;have:r+1=t*(r / t)+(r % t+1):=by omega
      exact ⟨by rw [this,Nat.mul_add_div hp,Nat.div_eq_of_lt h];rfl,by rw [this,Nat.mul_add_mod,Nat.mod_eq_of_lt h]⟩
    · right;have:r+1=t*(r / t+1)+0:=by rw [Nat.mul_add];omega
      exact ⟨by rw [this,Nat.mul_add_div hp];simp,by rw [this,Nat.mul_add_mod];simp,by omega⟩
  generalize (r+1) / t=x' at *
  generalize (r+1) % t=f' at *
  generalize r / t=x at *
  generalize r % t=f at *
  rcases hx with ⟨rfl,rfl⟩ | ⟨rfl,rfl,rfl⟩
  · refine Nat.mul_lt_mul_of_pos_right ?_ (Nat.two_pow_pos _);cases x' with
    | zero=>simp at *
    | succ y => simp; have : t * (y + 1) = y * t + t := by rw [Nat.mul_add, Nat.mul_comm]; omega
                omega
  · cases x with
    | zero=>simp at *;try omega
    | succ y =>
      simp only [Nat.add_sub_cancel];have e1:t*(y+1)=y*t+t:=by rw [Nat.mul_add,Nat.mul_comm];omega
      have e2:t*(y+1+1)=(y+1)*t+t:=by rw [Nat.mul_add,Nat.mul_comm];omega
      have e3:(y+1)*t=y*t+t:=by rw [Nat.add_mul];omega
      have a1:r - y*t=2*t - 1:=by omega
      have a2:r+1 - (y+1)*t=t:=by omega
      rw [a1,a2,Nat.pow_succ,← Nat.mul_assoc,Nat.mul_right_comm];refine Nat.mul_lt_mul_of_pos_right ?_ (Nat.two_pow_pos _);omega
theorem Ei {k r q:Nat} (h:r < q):vN k r < vN k q:=by
 induction q with
 | zero=>omega
 | succ q ih =>
  rcases Nat.lt_or_ge r q with h1 | h1
  ·exact Nat.lt_trans (ih h1) (Eh k q)
  ·have:r=q:=by omega
   rw [this];exact Eh k q
theorem zj {k r q:Nat}:vN k r < vN k q↔r < q:=by
 constructor
 ·intro h;rcases Nat.lt_or_ge r q with h1 | h1
  ·exact h1
  ·rcases Nat.lt_or_ge q r with h2 | h2
   ·have:=Ei (k:=k) h2;omega
   ·have:r=q:=by omega
    subst this;omega
 ·exact Ei
theorem K4 {k r:Nat} (a:Bool):at_ a (aS k r) (bP k r) (bj k)=if a=true then -(vN k r:Int) else (vN k r:Int):=by
 unfold at_ vN;have:(bP k r - bj k).toNat=cV k r:=by unfold bP;omega
 rw [this,Int.natCast_mul]
theorem below_at {a b:Bool} {m n:Nat} {e f:Int} {v:Int} (h1:v≤e) (h2:v≤f):below (.fin a m e) (.fin b n f)=decide (at_ a m e v < at_ b n f v):=by
 show decide (at_ a m e (min e f) < at_ b n f (min e f))=_;have hv:v≤min e f:=by omega
 rw [jP a m hv (Int.min_le_left _ _),jP b n hv (Int.min_le_right _ _)];refine decide_eq_decide.mpr ?_;have hp:=wL (min e f - v).toNat;constructor
 ·intro h;exact Int.mul_lt_mul_of_pos_right h hp
 ·intro h;exact Int.lt_of_mul_lt_mul_right h (Int.le_of_lt hp)
theorem zW {k r:Nat}:bj k≤bP k r:=by unfold bP;omega
theorem Ej {k r:Nat}:vN k r=0↔r=0:=by
 unfold vN;rw [Nat.mul_eq_zero,fA];have:=Nat.two_pow_pos (cV k r);omega
theorem rR {k a b:Nat} (hk:Bk k) (ha:Vb k a) (hb:Vb k b) (na:¬ infinity k < aq k a) (nb:¬ infinity k < aq k b):first (worth k a) (worth k b)=decide (dD k a < dD k b):=by
 have Bj:infinity k≠0:=by rcases hk with rfl | rfl | rfl <;> decide
 unfold first
 rw [wN hk,wN hk,Eg ha,Eg hb];rcases aY (b:=a) hk with ⟨h1,w1⟩ | ⟨h1,w1⟩ | ⟨h1,w1⟩ <;> rcases aY (b:=b) hk with ⟨h2,w2⟩ | ⟨h2,w2⟩ | ⟨h2,w2⟩ <;> try omega
 ·rw [w1,w2,below_at (v:=bj k) zW zW,K4,K4];have c:=zj (k:=k) (r:=aq k a) (q:=aq k b);have d:=zj (k:=k) (r:=aq k b) (q:=aq k a);have z1:=Ej (k:=k) (r:=aq k a);have z2:=Ej (k:=k) (r:=aq k b);simp only [negative];generalize vN k (aq k a)=x at *
  generalize vN k (aq k b)=y at *
  generalize aq k a=r at *
  generalize aq k b=q at *
  rw [Bool.eq_iff_iff];cases a9 k a <;> cases a9 k b <;> simp <;> omega
 ·rw [w1,w2];have q:aq k b≠0:=by omega
  simp only [below,negative,q,decide_false,Bool.false_and,Bool.and_false,Bool.or_false];rw [Bool.eq_iff_iff];cases a9 k a <;> cases a9 k b <;> simp <;> omega
 ·rw [w1,w2];have q:aq k a≠0:=by omega
  simp only [below,negative,q,decide_false,Bool.false_and,Bool.and_false,Bool.or_false];rw [Bool.eq_iff_iff];cases a9 k a <;> cases a9 k b <;> simp <;> omega
 ·rw [w1,w2];have q:aq k a≠0:=by omega
  simp only [below,negative,q,decide_false,Bool.false_and,Bool.and_false,Bool.or_false];rw [Bool.eq_iff_iff];cases a9 k a <;> cases a9 k b <;> simp <;> omega
theorem lU {k b:Nat} (hk:Bk k):isNan (worth k b)=decide (infinity k < aq k b):=by
 unfold isNan;rw [Bool.eq_iff_iff,beq_iff_eq,decide_eq_true_eq];exact Ef hk
theorem Fg {k a b:Nat} (hk:Bk k) (ha:Vb k a) (hb:Vb k b) (na:¬ infinity k < aq k a) (nb:¬ infinity k < aq k b):near k (lesser (worth k a) (worth k b))=if dD k a≤dD k b then a else b:=by
 unfold lesser;rw [lU hk,lU hk,if_neg (by simp;omega),rR hk hb ha nb na];by_cases h:dD k a≤dD k b
 ·rw [if_pos h,if_neg (by simp;omega),nY hk ha na]
 ·rw [if_neg h,if_pos (by simp;omega),nY hk hb nb]
theorem CJ {k a b:Nat} (hk:Bk k) (ha:Vb k a) (hb:Vb k b) (na:¬ infinity k < aq k a) (nb:¬ infinity k < aq k b) (same:dD k a=dD k b→a=b):near k (greater (worth k a) (worth k b))=if dD k a≤dD k b then b else a:=by
 unfold greater;rw [lU hk,lU hk,if_neg (by simp;omega),rR hk ha hb na nb];by_cases h:dD k a < dD k b
 ·rw [if_pos (show dD k a≤dD k b by omega),if_pos (by simpa using h),nY hk hb nb]
 ·rw [if_neg (by simpa using h),nY hk ha na];by_cases h2:dD k a≤dD k b
  ·rw [if_pos h2];exact same (by omega)
  ·rw [if_neg h2]
theorem G1 {k a b:Nat} (ha:Vb k a) (hb:Vb k b) (h:dD k a=dD k b):a=b:=by
 unfold dD at h;unfold Vb at *
 split at h <;> split at h <;> omega
theorem JJ {k a b c:Nat} (hk:Bk k) (ha:Vb k a) (hb:Vb k b) (hc:Vb k c) (na:¬ infinity k < aq k a) (nb:¬ infinity k < aq k b) (nc:¬ infinity k < aq k c) :
  near k (plus (times (worth k a) (worth k b)) (worth k c))=if aq k a=infinity k∨aq k b=infinity k then near k (plus (worth k (near k (times (worth k a) (worth k b)))) (worth k c)) else if aq k c=infinity k then c else
   near k (plus (.fin (a9 k a != a9 k b) (aS k (aq k a)*aS k (aq k b)) (bP k (aq k a)+bP k (aq k b))) (.fin (a9 k c) (aS k (aq k c)) (bP k (aq k c)))):=by
 by_cases h:aq k a=infinity k∨aq k b=infinity k
 ·rw [if_pos h];have key:worth k (near k (times (worth k a) (worth k b)))=times (worth k a) (worth k b):=by
   have Bj:infinity k≠0:=by rcases hk with rfl | rfl | rfl <;> decide
   have:times (worth k a) (worth k b)=.nan∨∃ n,times (worth k a) (worth k b)=.inf n:=by
    rcases aY (b:=a) hk with ⟨h1,w1⟩ | ⟨h1,w1⟩ | ⟨h1,w1⟩ <;> rcases aY (b:=b) hk with ⟨h2,w2⟩ | ⟨h2,w2⟩ | ⟨h2,w2⟩ <;> try omega
    all_goals
     rw [w1,w2];unfold times;simp only;split
     ·exact .inl rfl
     ·exact .inr ⟨_,rfl⟩
   rcases this with e | ⟨n,e⟩
   ·rw [e,bS hk,Bh hk]
   ·rw [e,cO hk,Fe hk]
  rw [key]
 ·rw [if_neg h];rcases aY (b:=a) hk with ⟨h1,w1⟩ | ⟨h1,w1⟩ | ⟨h1,w1⟩ <;> rcases aY (b:=b) hk with ⟨h2,w2⟩ | ⟨h2,w2⟩ | ⟨h2,w2⟩ <;> try omega
  rcases aY (b:=c) hk with ⟨h3,w3⟩ | ⟨h3,w3⟩ | ⟨h3,w3⟩
  ·rw [w1,w2,w3,if_neg (by omega)];rfl
  ·rw [w1,w2,w3,if_pos h3];show near k (.inf (a9 k c))=c;rw [cO hk,← h3];exact (lT hc).symm
  ·omega
theorem qD {k:Nat} (hk:Bk k):-1074≤bj k∧bj k≤-24:=by rcases hk with rfl | rfl | rfl <;> decide
theorem LD {k:Nat} (hk:Bk k):-bj k+2≤(top k:Int):=by rcases hk with rfl | rfl | rfl <;> decide
theorem units_le {w:Nat} {neg:Bool} {m:Nat} {D:Int} (h:0 < D):cM w neg m D≤m / 2 ^ D.toNat+1:=by
 rw [hU h];split <;> omega
theorem wO {k w:Nat} {neg:Bool} {r n:Nat} (hk:Bk k) (hr:r < infinity k) (hn:n≤15) :
  ∃ m' e',worth k (rounded k 0 neg (cM w neg (aS k r) (-(n:Int) - bP k r)) (-(n:Int)))=.fin neg m' e'∧JG (cM w neg (aS k r) (-(n:Int) - bP k r)) (-(n:Int)) m' e':=by
 have hi:=rO hk;have hd:=dj hk;have e2:=kQ hk;have O2:=qD hk;have hs:=qB (r:=r) hk;by_cases hD:-(n:Int) - bP k r≤0
 ·refine ⟨aS k r,bP k r,?_,?_⟩
  ·have h1:JG (cM w neg (aS k r) (-(n:Int) - bP k r)) (-(n:Int)) (aS k r) (bP k r):=by
    refine ⟨-(n:Int),by omega,by omega,?_⟩;rw [du hD];simp
    congr 2;omega
   rw [h1.rounded hk,sV hk hr];rcases aY (b:=sign k neg r) hk with ⟨a1,a2⟩ | ⟨a1,_⟩ | ⟨a1,_⟩
   ·rw [a2,fv (by omega),nq (by omega)]
   ·rw [fv (by omega)] at a1;omega
   ·rw [fv (by omega)] at a1;omega
  ·refine ⟨-(n:Int),by omega,by omega,?_⟩;rw [du hD];simp
   congr 2;omega
 ·have hu:=units_le (w:=w) (neg:=neg) (m:=aS k r) (D:=-(n:Int) - bP k r) (by omega);have XG:aS k r / 2 ^ (-(n:Int) - bP k r).toNat < 2 ^ (digits k - 1):=by
   rw [Nat.div_lt_iff_lt_mul (Nat.two_pow_pos _)];have:2 ^ 1≤2 ^ (-(n:Int) - bP k r).toNat:=Nat.pow_le_pow_right (by decide) (by omega);have:=Nat.mul_le_mul_left (2 ^ (digits k - 1)) this;omega
  have XH:cM w neg (aS k r) (-(n:Int) - bP k r)≤2 ^ (digits k - 1):=by omega
  generalize cM w neg (aS k r) (-(n:Int) - bP k r)=u at *
  by_cases hz:u=0
  ·subst hz;rw [bN];rcases aY (b:=sign k neg 0) hk with ⟨a1,a2⟩ | ⟨a1,_⟩ | ⟨a1,_⟩
   ·refine ⟨0,bP k 0,?_,?_⟩
    ·rw [a2,fv (by omega),nq (by omega)];rw [fA.mpr rfl]
    ·refine ⟨min (-(n:Int)) (bP k 0),by omega,by omega,by simp⟩
   ·rw [fv (by omega)] at a1;have:infinity k≠0:=by rcases hk with rfl | rfl | rfl <;> decide
    omega
   ·rw [fv (by omega)] at a1;omega
  ·have XI:bq u≤digits k:=bK (by have:=Nat.two_pow_pos (digits k - 1);omega);have Si:aW k u (-(n:Int))≤0:=by unfold aW;omega
   have Qc:bj k - (-(n:Int))≤aW k u (-(n:Int)):=Int.le_max_right _ _;have NG:bq u - (digits k:Int)≤aW k u (-(n:Int)):=Int.le_max_left _ _;have Bl:=pw (d:=(-aW k u (-(n:Int))).toNat) hz;have hq:u*2 ^ (-aW k u (-(n:Int))).toNat < 2 ^ digits k:=cz (by omega);have Uq:=LD hk;have CG:bR k 0 neg u (-(n:Int)) < infinity k:=by
    unfold bR infinity;rw [du Si];obtain ⟨A,hA⟩:∃ A:Nat,-(n:Int)+aW k u (-(n:Int)) - bj k=(A:Int):=⟨(-(n:Int)+aW k u (-(n:Int)) - bj k).toNat,by omega⟩;rw [hA,Int.toNat_natCast];have h1:A+2≤top k:=by omega
    have h2:(A+2)*2 ^ (digits k - 1)≤top k*2 ^ (digits k - 1):=Nat.mul_le_mul_right _ h1;rw [Nat.add_mul] at h2;omega
   refine ⟨_,_,yK hk hz Si CG,⟨-(n:Int)+aW k u (-(n:Int)),by omega,by omega,?_⟩⟩;simp
   congr 2;omega
theorem rn {k w b n:Nat} (hk:Bk k) (h1:aq k b < infinity k):near k (multiple w n (worth k b))=rounded k 0 (a9 k b) (cM w (a9 k b) (aS k (aq k b)) (-(n:Int) - bP k (aq k b))) (-(n:Int)):=by
 rcases aY (b:=b) hk with ⟨_,w1⟩ | ⟨h,w1⟩ | ⟨h,w1⟩
 ·rw [w1];show near k (.fin _ (units w _ _ _ _) _)=_;rw [cN hk,jO]
 ·omega
 ·omega
theorem rest_eq {k w b n:Nat} (hk:Bk k) (hb:Vb k b) (hn:n≤15):near k (restOf w n (worth k b)) =
  if aq k b=infinity k then 0 else near k (plus (worth k b) (worth k (pq k (near k (multiple w n (worth k b)))))):=by
 rcases aY (b:=b) hk with ⟨h1,w1⟩ | ⟨h,w1⟩ | ⟨h,w1⟩
 ·rw [if_neg (by omega),rQ hk (qC hk _),rn hk h1];obtain ⟨m',e',a1,a2⟩:=wO (w:=w) (neg:=a9 k b) hk h1 hn;rw [a1,w1];have ep:=JG.plus hk (a:=a9 k b) (b:=!a9 k b) (m:=aS k (aq k b)) (e:=bP k (aq k b)) a2;show near k (if isZero (plus (.fin (a9 k b) (aS k (aq k b)) (bP k (aq k b))) (.fin (!a9 k b) (units w (a9 k b) (aS k (aq k b)) (bP k (aq k b)) (-(n:Int))) (-(n:Int))))=true then .fin false 0 0 else (plus (.fin (a9 k b) (aS k (aq k b)) (bP k (aq k b))) (.fin (!a9 k b) (units w (a9 k b) (aS k (aq k b)) (bP k (aq k b)) (-(n:Int))) (-(n:Int)))))=near k (plus _ (.fin (!a9 k b) m' e'));rw [jO,← ep];generalize cM w (a9 k b) (aS k (aq k b)) (-(n:Int) - bP k (aq k b))=u;generalize aS k (aq k b)=m;generalize bP k (aq k b)=e;by_cases hz:isZero (plus (.fin (a9 k b) m e) (.fin (!a9 k b) u (-(n:Int))))=true
  ·have Qe:isZero (plus (.fin (a9 k b) m e) (.fin (!a9 k b) u (-(n:Int))))=true:=hz;rw [if_pos hz];show near k (.fin false 0 0)=near k (unitsOf (at_ (a9 k b) m e (min e (-(n:Int)))+at_ (!a9 k b) u (-(n:Int)) (min e (-(n:Int)))) (min e (-(n:Int))) (a9 k b&&!a9 k b));have Qg:isZero (unitsOf (at_ (a9 k b) m e (min e (-(n:Int)))+at_ (!a9 k b) u (-(n:Int)) (min e (-(n:Int)))) (min e (-(n:Int))) (a9 k b&&!a9 k b))=true:=Qe;unfold unitsOf at Qg ⊢;by_cases hs:at_ (a9 k b) m e (min e (-(n:Int)))+at_ (!a9 k b) u (-(n:Int)) (min e (-(n:Int)))=0
   ·rw [if_pos hs];have:(a9 k b&&!a9 k b)=false:=by cases a9 k b <;> rfl
    rw [this]
   ·rw [if_neg hs,hV] at Qg;simp at Qg;omega
  ·rw [if_neg hz]
 ·rw [if_pos h,w1];show near k (.fin false 0 0)=0;rw [cN hk,bN];rfl
 ·rw [if_neg (by omega),w1];rfl
theorem G2 {k b:Nat} (hk:Bk k) (nb:¬ infinity k < aq k b):near k (powerOf (worth k b))=if aq k b=infinity k then infinity k else if aq k b=0 then sign k true (infinity k) else
  rounded k 0 (decide (bP k (aq k b)+bq (aS k (aq k b)) - 1 < 0)) (bP k (aq k b)+bq (aS k (aq k b)) - 1).natAbs 0:=by
 rcases aY (b:=b) hk with ⟨h1,w1⟩ | ⟨h,w1⟩ | ⟨h,w1⟩
 ·rw [if_neg (by omega),w1];have z:=fA (k:=k) (r:=aq k b);by_cases hz:aq k b=0
  ·rw [if_pos hz,z.mpr hz];show near k (.inf true)=_;exact cO hk _
  ·rw [if_neg hz];have Qe:aS k (aq k b)≠0:=fun q=>hz (z.mp q);obtain ⟨m,hm⟩:∃ m,aS k (aq k b)=m+1:=⟨aS k (aq k b) - 1,by omega⟩;rw [iF (by omega),hm];show near k (.fin (decide ((Nat.log2 (m+1):Int)+bP k (aq k b) < 0)) ((Nat.log2 (m+1):Int)+bP k (aq k b)).natAbs 0)=_;rw [cN hk];have:bP k (aq k b)+((Nat.log2 (m+1):Int)+1) - 1=(Nat.log2 (m+1):Int)+bP k (aq k b):=by omega
   rw [this]
 ·rw [if_pos h,w1];show near k (.inf false)=_;rw [cO hk];rfl
 ·omega
theorem JK {k b:Nat} (hk:Bk k) (nb:¬ infinity k < aq k b):near k (partOf (worth k b))=if aq k b=infinity k∨aq k b=0 then rounded k 0 (a9 k b) 1 0 else
  rounded k 0 (a9 k b) (aS k (aq k b)) (1 - bq (aS k (aq k b))):=by
 rcases aY (b:=b) hk with ⟨h1,w1⟩ | ⟨h,w1⟩ | ⟨h,w1⟩
 ·rw [w1];have z:=fA (k:=k) (r:=aq k b);by_cases hz:aq k b=0
  ·rw [if_pos (.inr hz),z.mpr hz];show near k (.fin _ 1 0)=_;exact cN hk _ _ _
  ·rw [if_neg (by omega)];have Qe:aS k (aq k b)≠0:=fun q=>hz (z.mp q);obtain ⟨m,hm⟩:∃ m,aS k (aq k b)=m+1:=⟨aS k (aq k b) - 1,by omega⟩;rw [iF (by omega),hm];show near k (.fin _ (m+1) (-(Nat.log2 (m+1):Int)))=_;rw [cN hk]
   congr 1;omega
 ·rw [if_pos (.inl h),w1];show near k (.fin _ 1 0)=_;exact cN hk _ _ _
 ·omega
theorem vc {k m:Nat} {neg:Bool} {e:Int} (hk:Bk k) (hm:m≠0) (he:2000≤e):rounded k 0 neg m e=sign k neg (infinity k):=by
 rw [ee hk hm];have hd:=dj hk;have O2:=qD hk;have hb:=iF (Nat.pos_of_ne_zero hm);have Qc:bj k - e≤aW k m e:=Int.le_max_right _ _;have NG:bq m - (digits k:Int)≤aW k m e:=Int.le_max_left _ _;have:infinity k≤bR k 0 neg m e:=by
  unfold bR infinity;have h1:top k≤(e+aW k m e - bj k).toNat:=by
   rcases hk with rfl | rfl | rfl
   ·have:top 6=31:=by decide
    have:digits 6=11:=by decide
    have:bj 6=-24:=by decide
    omega
   ·have:top 7=255:=by decide
    have:digits 7=24:=by decide
    have:bj 7=-149:=by decide
    omega
   ·have:top 8=2047:=by decide
    have:digits 8=53:=by decide
    have:bj 8=-1074:=by decide
    omega
  have:=Nat.mul_le_mul_right (2 ^ (digits k - 1)) h1;omega
 rw [if_pos this];rfl
theorem sW {k m:Nat} {neg:Bool} {e:Int} (hk:Bk k) (hm:m≠0) (hb:bq m≤60) (he:e≤-2000):rounded k 0 neg m e=sign k neg 0:=by
 rw [ee hk hm];have hd:=dj hk;have O2:=qD hk;have XJ:=bL m;have hD:aW k m e=bj k - e:=by unfold aW;omega
 have Bj:infinity k≠0:=by rcases hk with rfl | rfl | rfl <;> decide
 have:bR k 0 neg m e=0:=by
  unfold bR;rw [hD,show e+(bj k - e) - bj k=0 by omega,ue (by decide) (by omega)];have iD:m < 2 ^ 60:=cz hb;have h2:2 ^ 60≤2 ^ (bj k - e - 1).toNat:=Nat.pow_le_pow_right (by decide) (by omega);have h3:2 ^ (bj k - e - 1).toNat≤2 ^ (bj k - e).toNat:=Nat.pow_le_pow_right (by decide) (by omega);rw [Nat.div_eq_of_lt (by omega),Nat.mod_eq_of_lt (by omega)];rw [if_neg hm,if_pos rfl,if_neg (by omega)];simp
 rw [this,if_neg (by omega)]
theorem G3 (neg:Bool) (m:Nat) (e:Int):floor (.fin neg m e)=between (-9999) 9999 (madeWhole 1 neg m e):=by
 unfold floor;simp only;by_cases he:64 < e
 ·rw [if_pos he];have hu:units 1 neg m e 0=m*2 ^ e.toNat:=by
   unfold units;rw [if_pos (by omega),show e - 0=e by omega]
  unfold madeWhole;simp only [hu];by_cases hm:m=0
  ·subst hm;simp [between]
  ·rw [if_neg hm];have h1:2 ^ 64≤2 ^ e.toNat:=Nat.pow_le_pow_right (by decide) (by omega);have h2:2 ^ 64≤m*2 ^ e.toNat:=Nat.le_trans h1 (Nat.le_mul_of_pos_left _ (by omega));generalize m*2 ^ e.toNat=x at *
   have h3:9999 < x:=Nat.lt_of_lt_of_le (by decide) h2;cases neg
   ·simp only [Bool.false_eq_true,if_false];unfold between;rw [if_neg (by omega),if_pos (by omega)]
   ·simp only [if_true];unfold between;rw [if_pos (by omega)]
 ·rw [if_neg he]
noncomputable def px (n:Int):Int:=between (-4096) 4096 n
theorem G4 {k m:Nat} {neg:Bool} {e n:Int} (hk:Bk k) (hb:bq m≤60) (h1:-1074≤e) (h2:e≤1100):rounded k 0 neg m (e+between (-9999) 9999 n)=rounded k 0 neg m (e+px n):=by
 by_cases hm:m=0
 ·subst hm;rw [bN,bN]
 ·unfold px between;by_cases a1:n < -4096
  ·rw [if_pos a1,sW hk hm hb (by split <;> (try split) <;> omega),sW hk hm hb (by omega)]
  ·rw [if_neg a1];by_cases a2:4096 < n
   ·rw [if_pos a2,vc hk hm (by split <;> (try split) <;> omega),vc hk hm (by omega)]
   ·rw [if_neg a2,if_neg (by omega),if_neg (by omega)]
theorem join_eq {k a b:Nat} (hk:Bk k) (ha:Vb k a) (na:¬ infinity k < aq k a) (nb:¬ infinity k < aq k b):near k (joined (worth k a) (worth k b)) =
  if aq k b=infinity k then (if a9 k b=true then (if aq k a=infinity k then plain k else sign k (a9 k a) 0) else (if aq k a=0 then plain k else sign k (a9 k a) (infinity k)))
  else if aq k a=infinity k then a else rounded k 0 (a9 k a) (aS k (aq k a)) (bP k (aq k a)+px (madeWhole 1 (a9 k b) (aS k (aq k b)) (bP k (aq k b)))):=by
 have Bj:infinity k≠0:=by rcases hk with rfl | rfl | rfl <;> decide
 have iD:=wd k a;have hz:=wN (b:=a) hk;rcases aY (b:=a) hk with ⟨h1,w1⟩ | ⟨h1,w1⟩ | ⟨h1,w1⟩ <;> rcases aY (b:=b) hk with ⟨h2,w2⟩ | ⟨h2,w2⟩ | ⟨h2,w2⟩ <;> try omega
 ·rw [if_neg (by omega),if_neg (by omega),w1,w2];show near k (.fin _ _ (_+floor _))=_;have hp:=GW hk iD;have hs:=zf (r:=aq k a) hk;rw [cN hk,G3,G4 hk (by omega) hp.1 hp.2]
 ·rw [if_pos h2,w2];rw [w1] at hz ⊢;cases hn:a9 k b
  ·rw [if_neg (by decide)];show near k (if isZero _=true then .nan else .inf _)=_;rw [hz];by_cases c:aq k a=0
   ·rw [if_pos (by simpa using c),if_pos c,bS hk]
   ·rw [if_neg (by simpa using c),if_neg c,cO hk];rfl
  ·rw [if_pos rfl,if_neg (by omega)];show near k (.fin (a9 k a) 0 0)=_;rw [cN hk,bN]
 ·rw [if_neg (by omega),if_pos h1,w1,w2];show near k (.inf _)=a;rw [cO hk,← h1];exact (lT ha).symm
 ·rw [if_pos h2,w2,w1];cases hn:a9 k b
  ·rw [if_neg (by decide),if_neg (by omega)];show near k (if isZero (.inf (a9 k a))=true then .nan else .inf (a9 k a))=_;rw [if_neg (by simp [isZero]),cO hk]
  ·rw [if_pos rfl,if_pos h1];exact bS hk
noncomputable abbrev Vk (k b:Nat):Prop:=b < 2 ^ width k
theorem Vk.vb {k b:Nat} (hk:Bk k) (h:Vk k b):Vb k b:=by unfold Vk at h;rw [Bd hk] at h;exact h
theorem Vb.vk {k b:Nat} (hk:Bk k) (h:Vb k b):Vk k b:=by unfold Vk;rw [Bd hk];exact h
theorem kR {k:Nat} (h:k≤8):k < 6∨Bk k:=by unfold Bk;omega
theorem eS {k:Nat} (h:k < 6):broken k=false:=by unfold broken;simp;omega
theorem jQ {k b:Nat} (h:k < 6):worth k b=.fin (decide (whole k b < 0)) (whole k b).natAbs 0:=by
 unfold worth;rw [if_pos (eS h)];rfl
theorem CK (w:Nat) (neg:Bool) (m:Nat):units w neg m 0 0=m:=by unfold units;simp
theorem yL (w:Nat) (n:Int):madeWhole w (decide (n < 0)) n.natAbs 0=n:=by
 unfold madeWhole;simp only [CK];by_cases h:n < 0
 ·rw [if_pos (decide_eq_true h)];omega
 ·rw [if_neg (by simpa using h)];omega
theorem JL {old new way b:Nat} (ho:old < 6) (hn:new < 6):made new way (worth old b)=if fits new (whole old b)=true then some (bitsOf new (whole old b)) else none:=by
 rw [jQ ho];unfold made;rw [if_neg (by rw [eS hn];decide)];simp only [yL]
theorem JM {old new way b:Nat} (ho:old < 6) (hn:Bk new):made new way (worth old b)=some (rounded new way (decide (whole old b < 0)) (whole old b).natAbs 0):=by
 rw [jQ ho];unfold made;rw [if_pos hn.broken]
theorem JN {old new way b:Nat} (ho:Bk old) (hn:new < 6):made new way (worth old b)=if infinity old < aq old b∨aq old b=infinity old then none else
  if fits new (madeWhole way (a9 old b) (aS old (aq old b)) (bP old (aq old b)))=true then some (bitsOf new (madeWhole way (a9 old b) (aS old (aq old b)) (bP old (aq old b)))) else none:=by
 unfold made;rw [if_neg (by rw [eS hn];decide)];rcases aY (b:=b) ho with ⟨h1,w1⟩ | ⟨h,w1⟩ | ⟨h,w1⟩
 ·rw [w1,if_neg (by omega)]
 ·rw [w1,if_pos (by omega)]
 ·rw [w1,if_pos (by omega)]
theorem JO {old new way b:Nat} (ho:Bk old) (hn:Bk new):made new way (worth old b)=some (if infinity old < aq old b then plain new else if aq old b=infinity old then sign new (a9 old b) (infinity new) else
  rounded new way (a9 old b) (aS old (aq old b)) (bP old (aq old b))):=by
 unfold made;rw [if_pos hn.broken];rcases aY (b:=b) ho with ⟨h1,w1⟩ | ⟨h,w1⟩ | ⟨h,w1⟩
 ·rw [w1,if_neg (by omega),if_neg (by omega)]
 ·rw [w1,if_neg (by omega),if_pos (by omega)]
 ·rw [w1,if_pos (by omega)]
noncomputable def fz (k b:Nat):Int:=if 6≤k then at_ (a9 k b) (aS k (aq k b)) (bP k (aq k b)) (-1074) else whole k b*((2 ^ 1074:Nat):Int)
noncomputable def cX (k b:Nat):Bool:=decide (6≤k)&&decide (infinity k < aq k b)
noncomputable def nZ (k b:Nat):Bool:=decide (6≤k)&&decide (aq k b=infinity k)
theorem wQ (n:Int) (d:Nat):at_ (decide (n < 0)) n.natAbs 0 (-(d:Int))=n*((2 ^ d:Nat):Int):=by
 unfold at_;rw [show (0 - -(d:Int)).toNat=d by omega];by_cases h:n < 0
 ·rw [if_pos (decide_eq_true h),← Int.neg_mul];congr 1;omega
 ·rw [if_neg (by simpa using h)];congr 1;omega
theorem fB {k b:Nat} (hk:k≤8):(cX k b=false∧nZ k b=false∧∃ neg m e,worth k b=.fin neg m e∧-1074≤e∧at_ neg m e (-1074)=fz k b) ∨
  (cX k b=false∧nZ k b=true∧Bk k∧worth k b=.inf (a9 k b))∨(cX k b=true∧worth k b=.nan):=by
 rcases kR hk with h | h
 ·left;have h6:¬ 6≤k:=by omega
  refine ⟨by simp [cX,h6],by simp [nZ,h6],_,_,_,jQ h,by omega,?_⟩;unfold fz;rw [if_neg h6];exact wQ _ 1074
 ·have h6:6≤k:=by rcases h with rfl | rfl | rfl <;> decide
  have O2:=qD h;rcases aY (b:=b) h with ⟨h1,w1⟩ | ⟨h1,w1⟩ | ⟨h1,w1⟩
  ·left;refine ⟨by simp [cX];omega,by simp [nZ];omega,_,_,_,w1,?_,?_⟩
   ·have:=zW (k:=k) (r:=aq k b);omega
   ·unfold fz;rw [if_pos h6]
  ·right;left;exact ⟨by simp [cX];omega,by simp [nZ,h6,h1],h,w1⟩
  ·right;right;exact ⟨by simp [cX,h6,h1],w1⟩
noncomputable def pairOf (k b:Nat):Int×Int:=if nZ k b=true then (if a9 k b=true then (-1,0) else (1,0)) else (0,fz k b)
noncomputable def G5 (x y:Int×Int):Bool:=decide (x.1 < y.1∨(x.1=y.1∧x.2 < y.2))
theorem ug {k b:Nat} (hk:k≤8):isNan (worth k b)=cX k b:=by
 rcases fB (b:=b) hk with ⟨h1,_,neg,m,e,w1,_⟩ | ⟨h1,_,_,w1⟩ | ⟨h1,w1⟩ <;> rw [w1,h1] <;> rfl
theorem zk {ka a kb b:Nat} (ha:ka≤8) (hb:kb≤8) (na:cX ka a=false) (nb:cX kb b=false):below (worth ka a) (worth kb b)=G5 (pairOf ka a) (pairOf kb b):=by
 unfold pairOf G5;rcases fB (b:=a) ha with ⟨_,i1,neg,m,e,w1,he,f1⟩ | ⟨_,i1,_,w1⟩ | ⟨h1,w1⟩
 ·rcases fB (b:=b) hb with ⟨_,i2,Qh,m2,e2,w2,Qi,f2⟩ | ⟨_,i2,_,w2⟩ | ⟨h2,w2⟩
  ·rw [w1,w2,i1,i2,below_at he Qi,f1,f2];simp
  ·rw [w1,w2,i1,i2];unfold below;cases a9 kb b <;> simp
  ·rw [nb] at h2;cases h2
 ·rcases fB (b:=b) hb with ⟨_,i2,Qh,m2,e2,w2,Qi,f2⟩ | ⟨_,i2,_,w2⟩ | ⟨h2,w2⟩
  ·rw [w1,w2,i1,i2];unfold below;cases a9 ka a <;> simp
  ·rw [w1,w2,i1,i2];unfold below;cases a9 ka a <;> cases a9 kb b <;> simp
  ·rw [nb] at h2;cases h2
 ·rw [na] at h1;cases h1
theorem Ek {x y:Int×Int}:(!G5 x y&&!G5 y x)=decide (x=y):=by
 obtain ⟨a,b⟩:=x;obtain ⟨c,d⟩:=y;unfold G5;rw [Bool.eq_iff_iff];simp;omega
theorem Fh {o ka a kb b:Nat} (ha:ka≤8) (hb:kb≤8) (ho:o≤3):holds o (worth ka a) (worth kb b) =
  if cX ka a=true∨cX kb b=true then decide (o=3) else if o=3 then false else if o=0 then decide (pairOf ka a=pairOf kb b) else if o=1 then G5 (pairOf ka a) (pairOf kb b) else (G5 (pairOf ka a) (pairOf kb b) || decide (pairOf ka a=pairOf kb b)):=by
 unfold holds alike;rw [ug ha,ug hb];cases na:cX ka a with
 | true =>
  have:worth ka a=.nan:=by
   rcases fB (b:=a) ha with ⟨h1,_⟩ | ⟨h1,_⟩ | ⟨_,w1⟩
   ·rw [na] at h1;cases h1
   ·rw [na] at h1;cases h1
   ·exact w1
  rw [this];have h4:o=0∨o=1∨o=2∨o=3:=by omega
  rcases h4 with rfl | rfl | rfl | rfl <;> simp [below]
 | false =>
  cases nb:cX kb b with
  | true =>
   have:worth kb b=.nan:=by
    rcases fB (b:=b) hb with ⟨h1,_⟩ | ⟨h1,_⟩ | ⟨_,w1⟩
    ·rw [nb] at h1;cases h1
    ·rw [nb] at h1;cases h1
    ·exact w1
   rw [this];have K3:below (worth ka a) .nan=false:=by cases worth ka a <;> rfl
   have h4:o=0∨o=1∨o=2∨o=3:=by omega
   rcases h4 with rfl | rfl | rfl | rfl <;> simp [K3]
  | false =>
   rw [zk ha hb na nb,zk hb ha nb na];have h4:o=0∨o=1∨o=2∨o=3:=by omega
   rcases h4 with rfl | rfl | rfl | rfl
   ·simp [← Ek]
   ·simp
   ·simp [← Ek]
   ·simp
noncomputable def placeOf (k b:Nat):Int:=if 6≤k then dD k b else whole k b
theorem zl {k a b:Nat} (hk:k≤8) (ha:Vk k a) (hb:Vk k b) (na:cX k a=false) (nb:cX k b=false):first (worth k a) (worth k b)=decide (placeOf k a < placeOf k b):=by
 unfold placeOf;rcases kR hk with h | h
 ·have h6:¬ 6≤k:=by omega
  rw [if_neg h6,if_neg h6];unfold first
  rw [jQ h,jQ h,below_at (v:=-((0:Nat):Int)) (by omega) (by omega),wQ,wQ];rw [hV,hV];simp only [negative];rw [Bool.eq_iff_iff];simp;omega
 ·have h6:6≤k:=by rcases h with rfl | rfl | rfl <;> decide
  rw [if_pos h6,if_pos h6];refine rR h (ha.vb h) (hb.vb h) ?_ ?_
  ·simpa [cX,h6] using na
  ·simpa [cX,h6] using nb
noncomputable def lV (k b:Nat):Bool:=decide (0 < aq k b∧aq k b < 2 ^ (digits k - 1))
noncomputable def jg (s:Int):List Nat:=if s % ((2 ^ 1074:Nat):Int)≠0 then [] else if s % (2*((2 ^ 1074:Nat):Int))=0 then [5] else [5,6]
noncomputable def kr (k b:Nat):List Nat:=if cX k b=true then [0] else if nZ k b=true then [1] else
 jg (fz k b)++(if fz k b=0 then [2] else [])++(if fz k b < 0 then [3] else [])++(if 6≤k∧lV k b=true then [4] else [])
theorem wR {k b:Nat} (hk:k≤8):small k b=(decide (6≤k)&&lV k b):=by
 unfold small;rcases kR hk with h | h
 ·rw [eS h];simp;omega
 ·have h6:6≤k:=by rcases h with rfl | rfl | rfl <;> decide
  rw [h.broken,Eb h,Ec h];simp only [h6,decide_true,Bool.true_and];unfold lV;have hp:0 < 2 ^ (digits k - 1):=Nat.two_pow_pos _;have GI:=Nat.div_add_mod (aq k b) (2 ^ (digits k - 1));have NC:=Nat.mod_lt (aq k b) hp;rw [Bool.eq_iff_iff];simp;constructor
  ·rintro ⟨h1,h2⟩;have:aq k b / 2 ^ (digits k - 1)=0:=Nat.div_eq_of_lt h1;rw [this] at GI;omega
  ·rintro ⟨h1,h2⟩;have:aq k b / 2 ^ (digits k - 1)=0:=Nat.div_eq_of_lt h2;exact ⟨h2,by rw [this] at GI;omega⟩
theorem CL {m N:Nat} {e:Int} (neg:Bool) (he:-(N:Int)≤e) (d:Nat):(at_ neg m e (-(N:Int)) % ((2 ^ (N+d):Nat):Int)=0)↔m*2 ^ (e+N).toNat % 2 ^ (N+d)=0:=by
 have:((at_ neg m e (-(N:Int))).natAbs)=m*2 ^ (e+N).toNat:=by
  rw [uf];congr 2;omega
 rw [← Int.dvd_iff_emod_eq_zero,← Int.natAbs_dvd_natAbs,this,Nat.dvd_iff_mod_eq_zero,Int.natAbs_natCast]
theorem vd {m N:Nat} {e:Int} (neg:Bool) (he:-(N:Int)≤e):isWhole (.fin neg m e)=decide (at_ neg m e (-(N:Int)) % ((2 ^ N:Nat):Int)=0):=by
 unfold isWhole;have:=CL (m:=m) neg he 0;rw [Nat.add_zero] at this;rw [Bool.eq_iff_iff];simp only [Bool.or_eq_true,decide_eq_true_eq];rw [this];by_cases h:0≤e
 ·have e1:m*2 ^ (e+N).toNat=m*2 ^ e.toNat*2 ^ N:=by rw [Nat.mul_assoc,← Nat.pow_add];congr 2;omega
  rw [e1,Nat.mul_mod_left];simp [h]
 ·have e1:2 ^ N=2 ^ (-e).toNat*2 ^ (e+N).toNat:=by rw [← Nat.pow_add];congr 1;omega
  rw [e1,Nat.mul_mod_mul_right];have hp:=Nat.two_pow_pos (e+N).toNat;rw [Nat.mul_eq_zero];constructor
  ·rintro (q | q)
   ·omega
   ·exact .inl q
  ·rintro (q | q)
   ·exact .inr q
   ·omega
theorem Fi {m N:Nat} {e:Int} (neg:Bool) (he:-(N:Int)≤e):isOdd (.fin neg m e)=(decide (at_ neg m e (-(N:Int)) % ((2 ^ N:Nat):Int)=0)&&!decide (at_ neg m e (-(N:Int)) % (2*((2 ^ N:Nat):Int))=0)):=by
 unfold isOdd;rw [vd neg he];cases hw:decide (at_ neg m e (-(N:Int)) % ((2 ^ N:Nat):Int)=0) with
 | false=>rfl
 | true =>
  rw [Bool.true_and,Bool.true_and];have d1:=(CL (m:=m) neg he 0);rw [Nat.add_zero] at d1;have d0:=d1.mp (of_decide_eq_true hw);have d2:=(CL (m:=m) neg he 1);have e2:(2*((2 ^ N:Nat):Int))=((2 ^ (N+1):Nat):Int):=by rw [Nat.pow_succ,Int.natCast_mul,Int.mul_comm];rfl
  rw [e2];have mw:∃ q:Nat,m*2 ^ (e+N).toNat=q*2 ^ N∧(madeWhole 3 neg m e=(q:Int)∨madeWhole 3 neg m e=-(q:Int)):=by
   unfold madeWhole;simp only;rw [jO];refine ⟨cM 3 neg m (0 - e),?_,?_⟩
   ·by_cases h:0≤e
    ·rw [du (by omega),Nat.mul_assoc,← Nat.pow_add];congr 2;omega
    ·rw [ue (by decide) (by omega)];have e1:2 ^ N=2 ^ (0 - e).toNat*2 ^ (e+N).toNat:=by rw [← Nat.pow_add];congr 1;omega
     have hp:=Nat.two_pow_pos (e+N).toNat;rw [e1,Nat.mul_mod_mul_right,Nat.mul_eq_zero] at d0;have d3:m % 2 ^ (0 - e).toNat=0:=by rcases d0 with q | q;exact q;omega
     rw [if_pos d3,e1,← Nat.mul_assoc,Nat.div_mul_cancel (Nat.dvd_of_mod_eq_zero d3)]
   ·cases neg <;> simp
  obtain ⟨q,hq,hm⟩:=mw;rw [hq] at d2;have e3:q*2 ^ N % 2 ^ (N+1)=0↔q % 2=0:=by
   rw [Nat.pow_succ,Nat.mul_comm q,Nat.mul_mod_mul_left,Nat.mul_eq_zero];have hp:=Nat.two_pow_pos N;constructor
   ·rintro (z | z)
    ·omega
    ·exact z
   ·exact .inr
  rw [e3] at d2;rw [Bool.eq_iff_iff];simp only [decide_eq_true_eq,Bool.not_eq_true',decide_eq_false_iff_not];rw [d2];rcases hm with hm | hm <;> rw [hm] <;> omega
theorem CM {m:Nat} {e:Int} (neg:Bool) (he:-1074≤e):isWhole (.fin neg m e)=decide (at_ neg m e (-1074) % ((2 ^ 1074:Nat):Int)=0):=vd (N:=1074) neg he
theorem G6 {m:Nat} {e:Int} (neg:Bool) (he:-1074≤e):isOdd (.fin neg m e)=(decide (at_ neg m e (-1074) % ((2 ^ 1074:Nat):Int)=0)&&!decide (at_ neg m e (-1074) % (2*((2 ^ 1074:Nat):Int))=0)):=Fi (N:=1074) neg he
noncomputable def Fj (k j b:Nat):Bool:=if j=0 then isNan (worth k b) else if j=1 then isInf (worth k b) else if j=2 then isZero (worth k b) else if j=3 then finite (worth k b)&&below (worth k b) (.fin false 0 0) else
 if j=4 then small k b else if j=5 then isWhole (worth k b) else isOdd (worth k b)
theorem Fk {k b j:Nat} (hk:k≤8) (hj:j < 7):(kr k b).count j=if Fj k j b=true then 1 else 0:=by
 have h7:j=0∨j=1∨j=2∨j=3∨j=4∨j=5∨j=6:=by omega
 unfold kr;rcases fB (b:=b) hk with ⟨n1,i1,neg,m,e,w1,he,f1⟩ | ⟨n1,i1,hb,w1⟩ | ⟨n1,w1⟩
 ·rw [if_neg (by rw [n1];decide),if_neg (by rw [i1];decide)];have p0:isNan (worth k b)=false:=by rw [w1];rfl
  have p1:isInf (worth k b)=false:=by rw [w1];rfl
  have p2:isZero (worth k b)=decide (fz k b=0):=by
   rw [w1,hV,← f1];refine decide_eq_decide.mpr ?_;rw [← Int.natAbs_eq_zero,uf,Nat.mul_eq_zero];have:=Nat.two_pow_pos (e - -1074).toNat;constructor
   ·exact .inl
   ·rintro (q | q);exact q;omega
  have p3:(finite (worth k b)&&below (worth k b) (.fin false 0 0))=decide (fz k b < 0):=by
   rw [w1,below_at (v:=-1074) he (by decide),f1];have:at_ false 0 0 (-1074)=0:=by unfold at_;simp
   rw [this];rfl
  have p5:isWhole (worth k b)=decide (fz k b % ((2 ^ 1074:Nat):Int)=0):=by rw [w1,CM neg he,f1]
  have p6:isOdd (worth k b)=(decide (fz k b % ((2 ^ 1074:Nat):Int)=0)&&!decide (fz k b % (2*((2 ^ 1074:Nat):Int))=0)):=by rw [w1,G6 neg he,f1]
  unfold Fj;rw [p0,p1,p2,p3,p5,p6,wR hk];unfold jg;generalize fz k b % ((2 ^ 1074:Nat):Int)=r1;generalize fz k b % (2*((2 ^ 1074:Nat):Int))=r2;generalize fz k b=z;generalize lV k b=t;simp only [← Bool.cond_decide,ne_eq,decide_not,Bool.decide_and,Bool.decide_eq_true];generalize decide (r1=0)=a;generalize decide (r2=0)=b';generalize decide (z=0)=c;generalize decide (z < 0)=d;generalize decide (6≤k)=e';clear h7;revert a b' c d e' t j;clear p0 p1 p2 p3 p5 p6 f1 he w1 n1 i1 hk;decide +kernel
 ·have h6:6≤k:=by rcases hb with rfl | rfl | rfl <;> decide
  have ht:lV k b=false:=by
   have:infinity k=aq k b:=by simpa [nZ,h6,eq_comm] using i1
   unfold lV;rw [← this];rcases hb with rfl | rfl | rfl <;> decide
  rw [if_neg (by rw [n1];decide),if_pos i1];unfold Fj;rw [wR hk,ht,w1];rcases h7 with rfl | rfl | rfl | rfl | rfl | rfl | rfl <;> simp [isNan,isInf,isZero,finite,isWhole,isOdd]
 ·have h6:6≤k:=by
   unfold cX at n1;simp at n1;exact n1.1
  have hb:Bk k:=by unfold Bk;omega
  have ht:lV k b=false:=by
   have h1:infinity k < aq k b:=by simpa [cX,h6] using n1
   have h2:2 ^ (digits k - 1)≤infinity k:=by rcases hb with rfl | rfl | rfl <;> decide
   unfold lV;simp;omega
  rw [if_pos n1];unfold Fj;rw [wR hk,ht,w1];rcases h7 with rfl | rfl | rfl | rfl | rfl | rfl | rfl <;> simp [isNan,isInf,isZero,finite,isWhole,isOdd]
theorem n0 (x:Num):plus .nan x=.nan:=by cases x <;> rfl
theorem rS (x:Num):plus x .nan=.nan:=by cases x <;> rfl
theorem wU:∀ l:List Num,l.foldl plus .nan=.nan
 | []=>rfl
 | x::r=>by rw [List.foldl_cons,n0,wU r]
noncomputable def signsOf (k:Nat) (bs:List Nat):List Bool:=(bs.filter (nZ k)).map (a9 k)
noncomputable def sumZ (k:Nat) (bs:List Nat):Int:=(bs.map (fz k)).sum
theorem wV {k:Nat} (hk:k≤8) (s:Bool):∀ bs:List Nat,bs.any (cX k)=false→(bs.map (worth k)).foldl plus (.inf s)=if (!s)∈signsOf k bs then .nan else .inf s
 | [],_=>rfl
 | b::r,h=>by
  rw [List.any_cons,Bool.or_eq_false_iff] at h;rw [List.map_cons,List.foldl_cons];rcases fB (b:=b) hk with ⟨n1,i1,neg,m,e,w1,he,f1⟩ | ⟨n1,i1,hb,w1⟩ | ⟨n1,w1⟩
  ·rw [w1,show plus (.inf s) (.fin neg m e)=.inf s from rfl,wV hk s r h.2];unfold signsOf;rw [List.filter_cons_of_neg (by rw [i1];decide)]
  ·rw [w1,show plus (.inf s) (.inf (a9 k b))=if s=a9 k b then .inf s else .nan from rfl];have e:signsOf k (b::r)=a9 k b::signsOf k r:=by unfold signsOf;rw [List.filter_cons_of_pos i1,List.map_cons]
   rw [e];by_cases hs:s=a9 k b
   ·rw [if_pos hs,wV hk s r h.2,← hs];have:((!s)∈s::signsOf k r)↔((!s)∈signsOf k r):=by
     rw [List.mem_cons];constructor
     ·rintro (q | q)
      ·cases s <;> cases q
      ·exact q
     ·exact .inr
    simp only [this]
   ·rw [if_neg hs,wU];have:(!s)=a9 k b:=by cases s <;> cases hh:a9 k b <;> simp_all
    rw [if_pos (by rw [this];exact List.mem_cons_self)]
  ·rw [h.1] at n1;cases n1
theorem Bm {k:Nat} (hk:k≤8):∀ (bs:List Nat) (a:Bool) (m:Nat) (e:Int),-1074≤e→bs.any (cX k)=false →
  (signsOf k bs=[]∧∃ a' m' e',(bs.map (worth k)).foldl plus (.fin a m e)=.fin a' m' e'∧-1074≤e'∧at_ a' m' e' (-1074)=at_ a m e (-1074)+sumZ k bs) ∨
  (∃ s r,signsOf k bs=s::r∧(bs.map (worth k)).foldl plus (.fin a m e)=if (!s)∈r then .nan else .inf s)
 | [],a,m,e,he,_=>.inl ⟨rfl,a,m,e,rfl,he,by simp [sumZ]⟩
 | b::r,a,m,e,he,h=>by
  rw [List.any_cons,Bool.or_eq_false_iff] at h;rw [List.map_cons,List.foldl_cons];rcases fB (b:=b) hk with ⟨n1,i1,neg,m2,e2,w1,Qi,f1⟩ | ⟨n1,i1,hb,w1⟩ | ⟨n1,w1⟩
  ·have es:signsOf k (b::r)=signsOf k r:=by unfold signsOf;rw [List.filter_cons_of_neg (by rw [i1];decide)]
   have ez:sumZ k (b::r)=fz k b+sumZ k r:=by unfold sumZ;rw [List.map_cons,List.sum_cons]
   rw [w1,es,ez];have hp:∃ a3 m3 e3,plus (.fin a m e) (.fin neg m2 e2)=.fin a3 m3 e3∧-1074≤e3∧at_ a3 m3 e3 (-1074)=at_ a m e (-1074)+fz k b:=by
    have hv:-1074≤min e e2:=by omega
    have e1:at_ a m e (-1074)+fz k b=(at_ a m e (min e e2)+at_ neg m2 e2 (min e e2))*((2 ^ (min e e2 - -1074).toNat:Nat):Int):=by
     rw [Int.add_mul,← jP a m hv (Int.min_le_left _ _),← jP neg m2 hv (Int.min_le_right _ _),f1]
    by_cases hz:at_ a m e (min e e2)+at_ neg m2 e2 (min e e2)=0
    ·refine ⟨a&&neg,0,0,?_,by decide,?_⟩
     ·show unitsOf _ _ _=_;unfold unitsOf;rw [if_pos hz]
     ·rw [e1,hz];unfold at_;simp
    ·refine ⟨decide (at_ a m e (min e e2)+at_ neg m2 e2 (min e e2) < 0),(at_ a m e (min e e2)+at_ neg m2 e2 (min e e2)).natAbs,min e e2,?_,hv,?_⟩
     ·show unitsOf _ _ _=_;unfold unitsOf;rw [if_neg hz]
     ·rw [e1];generalize at_ a m e (min e e2)+at_ neg m2 e2 (min e e2)=s;unfold at_;by_cases hs:s < 0
      ·rw [if_pos (decide_eq_true hs),← Int.neg_mul];congr 1;omega
      ·rw [if_neg (by simpa using hs)];congr 1;omega
   obtain ⟨a3,m3,e3,p1,p2,p3⟩:=hp;rw [p1];rcases Bm hk r a3 m3 e3 p2 h.2 with ⟨q1,a',m',e',q2,q3,q4⟩ | q
   ·exact .inl ⟨q1,a',m',e',q2,q3,by rw [q4,p3];omega⟩
   ·exact .inr q
  ·right;have es:signsOf k (b::r)=a9 k b::signsOf k r:=by unfold signsOf;rw [List.filter_cons_of_pos i1,List.map_cons]
   refine ⟨a9 k b,signsOf k r,es,?_⟩;rw [w1,show plus (.fin a m e) (.inf (a9 k b))=.inf (a9 k b) from rfl,wV hk _ r h.2]
  ·rw [h.1] at n1;cases n1
theorem rp {k:Nat} (hk:k≤8):∀ (bs:List Nat) (x:Num),bs.any (cX k)=true→(bs.map (worth k)).foldl plus x=.nan
 | [],_,h=>by cases h
 | b::r,x,h=>by
  rw [List.map_cons,List.foldl_cons];cases hb:cX k b with
  | true =>
   have:worth k b=.nan:=by
    rcases fB (b:=b) hk with ⟨n1,_⟩ | ⟨n1,_⟩ | ⟨_,w1⟩
    ·rw [hb] at n1;cases n1
    ·rw [hb] at n1;cases n1
    ·exact w1
   rw [this,rS,wU]
  | false =>
   rw [List.any_cons,hb,Bool.false_or] at h;exact rp hk r _ h
theorem yM {a:Bool} {m:Nat} {e:Int} (he:-1074≤e):near 8 (unsigned0 (.fin a m e))=rounded 8 0 (decide (at_ a m e (-1074) < 0)) (at_ a m e (-1074)).natAbs (-1074):=by
 have h8:Bk 8:=.inr (.inr rfl);unfold unsigned0;rw [hV];by_cases hm:m=0
 ·subst hm;rw [if_pos (by rfl),cN h8,bN];have:at_ a 0 e (-1074)=0:=by unfold at_;simp
  rw [this];exact (bN _ _ _ _).symm
 ·rw [if_neg (by simpa using hm),cN h8];have Bf:0 < m*2 ^ (e - -1074).toNat:=Nat.mul_pos (Nat.pos_of_ne_zero hm) (Nat.two_pow_pos _);have e1:=uf a m e (-1074);have e2:decide (at_ a m e (-1074) < 0)=a:=by
   have:at_ a m e (-1074)=if a=true then -((m*2 ^ (e - -1074).toNat:Nat):Int) else ((m*2 ^ (e - -1074).toNat:Nat):Int):=by unfold at_;rw [Int.natCast_mul]
   rw [this];generalize m*2 ^ (e - -1074).toNat=x at *
   cases a
   ·simp only [Bool.false_eq_true,if_false];exact decide_eq_false (by omega)
   ·simp only [if_true];exact decide_eq_true (by omega)
  rw [e2,e1];have:=jC (k:=8) (w:=0) (neg:=a) (m:=m) (d:=(e - -1074).toNat) (e:=e) h8;rw [show e - ((e - -1074).toNat:Nat)=-1074 by omega] at this;exact this.symm
noncomputable def G7 (k:Nat) (bs:List Nat):Nat:=if bs.any (cX k)=true then plain 8 else if false∈signsOf k bs∧true∈signsOf k bs then plain 8 else match signsOf k bs with
 | s::_=>sign 8 s (infinity 8)
 | []=>rounded 8 0 (decide (sumZ k bs < 0)) (sumZ k bs).natAbs (-1074)
theorem LF {k:Nat} (hk:k≤8) (bs:List Nat):near 8 (unsigned0 ((bs.map (worth k)).foldl plus (.fin false 0 0)))=G7 k bs:=by
 have h8:Bk 8:=.inr (.inr rfl);unfold G7;cases hn:bs.any (cX k) with
 | true=>rw [rp hk bs _ hn,if_pos rfl];exact bS h8
 | false =>
  rw [if_neg (by decide)];rcases Bm hk bs false 0 0 (by decide) hn with ⟨q1,a',m',e',q2,q3,q4⟩ | ⟨s,r,q1,q2⟩
  ·rw [q1,if_neg (by simp),q2,yM q3,q4];have:at_ false 0 0 (-1074)=0:=by unfold at_;simp
   rw [this,Int.zero_add]
  ·rw [q1,q2];have hm:(false∈s::r∧true∈s::r)↔(!s)∈r:=by
    cases s <;> simp
   by_cases hc:(!s)∈r
   ·rw [if_pos hc,if_pos (hm.mpr hc)];exact bS h8
   ·rw [if_neg hc,if_neg (fun q=>hc (hm.mp q))];exact cO h8 s
theorem G8 (s:Int):([(s % (2 ^ 128:Int)).toNat % 2 ^ 64,(s % (2 ^ 128:Int)).toNat / 2 ^ 64]:List Nat).map (fun (n:Nat)=>(n:Int))=[s % (2 ^ 64),s / 2 ^ 64 % 2 ^ 64]:=by
 have h0:0≤s % (2 ^ 128:Int):=Int.emod_nonneg _ (by decide);simp only [List.map_cons,List.map_nil,List.cons.injEq,and_true];constructor <;> omega
noncomputable def n4 (f:Nat→Int) (l:List Nat):Nat:=l.foldl (fun m b=>if f b < f m then b else m) (l.headD 0)
noncomputable def rT (f:Nat→Int) (l:List Nat):Nat:=l.foldl (fun m b=>if f m < f b then b else m) (l.headD 0)
theorem j4 {α β:Type} {f g:β→α→β} {p:β→Prop}:∀ (l:List α) (x:β),p x→(∀ b a,p b→a∈l→f b a=g b a∧p (f b a))→l.foldl f x=l.foldl g x
 | [],_,_,_=>rfl
 | a::r,x,hx,h=>by
  rw [List.foldl_cons,List.foldl_cons];obtain ⟨h1,h2⟩:=h x a hx List.mem_cons_self;rw [← h1];exact j4 r _ h2 fun b c hb hc=>h b c hb (List.mem_cons_of_mem _ hc)
theorem G9 {k:Nat} (hk:k≤8) {l:List Nat} (hl:∀ b∈l,Vk k b∧cX k b=false):least k l=n4 (placeOf k) l:=by
 unfold least n4;cases l with
 | nil=>rfl
 | cons c r =>
  refine j4 (p:=fun m=>Vk k m∧cX k m=false) _ _ (hl c List.mem_cons_self) fun b a hb ha=>?_;obtain ⟨v1,n1⟩:=hl a ha;rw [zl hk v1 hb.1 n1 hb.2];constructor
  ·by_cases h:placeOf k a < placeOf k b
   ·rw [if_pos (decide_eq_true h),if_pos h]
   ·rw [if_neg (by simpa using h),if_neg h]
  ·split
   ·exact ⟨v1,n1⟩
   ·exact hb
theorem JP {k:Nat} (hk:k≤8) {l:List Nat} (hl:∀ b∈l,Vk k b∧cX k b=false):most k l=rT (placeOf k) l:=by
 unfold most rT;cases l with
 | nil=>rfl
 | cons c r =>
  refine j4 (p:=fun m=>Vk k m∧cX k m=false) _ _ (hl c List.mem_cons_self) fun b a hb ha=>?_;obtain ⟨v1,n1⟩:=hl a ha;rw [zl hk hb.1 v1 hb.2 n1];constructor
  ·by_cases h:placeOf k b < placeOf k a
   ·rw [if_pos (decide_eq_true h),if_pos h]
   ·rw [if_neg (by simpa using h),if_neg h]
  ·split
   ·exact ⟨v1,n1⟩
   ·exact hb
theorem JQ {l x t:List Int} (h:PyFlat.row l=some (x,t)):l=(x.length:Int)::(x++t):=by
 cases l with
 | nil=>cases h
 | cons n r =>
  have h':(if 0≤n∧n.toNat≤r.length then some (r.take n.toNat,r.drop n.toNat) else none)=some (x,t):=h;by_cases k:0≤n∧n.toNat≤r.length
  ·rw [if_pos k] at h';obtain ⟨e1,e2⟩:=Prod.mk.inj (Option.some.inj h');subst e1;subst e2;have:((r.take n.toNat).length:Int)=n:=by rw [List.length_take];omega
   rw [this,List.take_append_drop]
  ·rw [if_neg k] at h';cases h'
noncomputable def LG:List Int:=[1,2,3,4,4,4,3,3,4,4,4,1,1,1,2,4,1,0,0]
theorem JR {c:Prop} [Decidable c] {α:Type} {a b:Option α} {x:α} (h:(if c then a else b)=some x):c∨b=some x:=by
 by_cases e:c
 ·exact .inl e
 ·rw [if_neg e] at h;exact .inr h
theorem rV {p:Int} {n k:Nat} (h:PyRd18.shape p=some (n,k)):0≤p∧p < 19∧LG[p.toNat]?=some (n:Int)∧(k=1↔(p=1∨p=14∨p=15∨p=16∨p=17))∧(k=0∨k=1):=by
 have hb:0≤p∧p < 19:=by
  have h:=h;unfold PyRd18.shape at h;iterate 19
   refine (JR h).elim (fun e=>by rw [e];decide) fun h=>?_
  cases h
 obtain ⟨m,rfl⟩:=Int.eq_ofNat_of_zero_le hb.1;have key:∀ i∈List.range 19,(PyRd18.shape (i:Int)).all (fun x=>decide (LG[i]?=some (x.1:Int)∧(x.2=1↔((i:Int)=1∨(i:Int)=14∨(i:Int)=15∨(i:Int)=16∨(i:Int)=17))∧(x.2=0∨x.2=1)))=true:=by decide +kernel
 have q:=key m (List.mem_range.mpr (by omega));rw [h] at q;exact ⟨hb.1,hb.2,of_decide_eq_true q⟩
theorem CN {p:Int} {n k:Nat} (h:PyRd18.shape p=some (n,k)):k≤1:=by
 have:=(rV h).2.2.2.2;omega
theorem Ha {f:Nat} {l:List Int} {cs:List (List (List Int))} (h:PyFlat.calls PyRd18.shape f l=some cs) (hl:l≠[]) :
  ∃ (p:Int) (n k:Nat) (g x t:List Int) (Ba:List (List (List Int))) (f':Nat),PyRd18.shape p=some (n,k)∧g.length=n∧PyFlat.calls PyRd18.shape f' t=some Ba ∧
   ((k=0∧x=[]∧l=p::(g++t)∧cs=[p::g]::Ba)∨(k=1∧l=p::(g++(x.length:Int)::(x++t))∧cs=[p::g,x]::Ba)):=by
 cases l with
 | nil=>exact absurd rfl hl
 | cons p r =>
  cases f with
  | zero=>cases h
  | succ f =>
   unfold PyFlat.calls at h;cases hc:PyFlat.call PyRd18.shape (p::r) with
   | none=>rw [hc] at h;cases h
   | some ct =>
    obtain ⟨c,t⟩:=ct;rw [hc] at h;simp only at h;cases LH:PyFlat.calls PyRd18.shape f t with
    | none=>rw [LH] at h;cases h
    | some Ba =>
     rw [LH] at h;have e:=Option.some.inj h;unfold PyFlat.call at hc;dsimp only at hc;cases hs:PyRd18.shape p with
     | none=>rw [hs] at hc;cases hc
     | some nk =>
      obtain ⟨n,k⟩:=nk;rw [hs] at hc;simp only at hc;split at hc
      ·cases hc
      ·rename_i hn;have hk:=CN hs;have hlen:(r.take n).length=n:=by rw [List.length_take];omega
       have Ur:k=0∨k=1:=by omega
       rcases Ur with rfl | rfl
       ·have Bb:some ((p::r.take n)::[],r.drop n)=some (c,t):=hc;obtain ⟨e1,e2⟩:=Prod.mk.inj (Option.some.inj Bb);refine ⟨p,n,0,r.take n,[],t,Ba,f,hs,hlen,LH,.inl ⟨rfl,rfl,?_,?_⟩⟩
        ·rw [← e2,List.take_append_drop]
        ·rw [← e,← e1]
       ·have hc:(match (match PyFlat.row (r.drop n) with
         | none=>none
         | some (x,s)=>some ([x],s)) with
         | none=>none
         | some (xs,t)=>some ((p::r.take n)::xs,t))=some (c,t):=by
         rw [← hc];cases hr:PyFlat.row (r.drop n) with
         | none=>simp [PyFlat.rows,hr]
         | some xs=>simp [PyFlat.rows,hr]
        cases hr:PyFlat.row (r.drop n) with
        | none=>rw [hr] at hc;cases hc
        | some xs =>
         obtain ⟨x,t'⟩:=xs;rw [hr] at hc;have Bb:some ((p::r.take n)::[x],t')=some (c,t):=hc;obtain ⟨e1,e2⟩:=Prod.mk.inj (Option.some.inj Bb);refine ⟨p,n,1,r.take n,x,t,Ba,f,hs,hlen,LH,.inr ⟨rfl,?_,?_⟩⟩
         ·rw [← e2,← JQ hr,List.take_append_drop]
         ·rw [← e,← e1]
noncomputable def zX (p:Int) (g x:List Int):Bool:=Rd18Neutral.asked1 (PyRd18.whole (if PyRd18.shape p=some (g.length,1) then [p::g,x] else [p::g]))
noncomputable def zm (s:Abs) (p:Int) (g x:List Int):Abs×List Int:=Rd18Neutral.step s (PyRd18.whole (if PyRd18.shape p=some (g.length,1) then [p::g,x] else [p::g]))
noncomputable def fD (s:Abs) (cs:List (List (List Int))):List Int:=PyFlat.told (PyFlat.played Rd18Neutral.step s (cs.map PyRd18.whole))
theorem Hb (s:Abs):fD s []=[]:=rfl
theorem zo (s:Abs) (c:List (List Int)) (cs:List (List (List Int))):fD s (c::cs)=(((Rd18Neutral.step s (PyRd18.whole c)).2.length:Int)::(Rd18Neutral.step s (PyRd18.whole c)).2)++fD (Rd18Neutral.step s (PyRd18.whole c)).1 cs:=by
 unfold fD;rw [List.map_cons];show PyFlat.told ((Rd18Neutral.step s (PyRd18.whole c)).2::PyFlat.played Rd18Neutral.step (Rd18Neutral.step s (PyRd18.whole c)).1 (cs.map PyRd18.whole))=_;unfold PyFlat.told;rw [List.flatMap_cons]
theorem LI {f:Nat} {l:List Int} {cs:List (List (List Int))} (s:Abs) (h:PyFlat.calls PyRd18.shape f l=some cs) (hl:l≠[]) (ha:(cs.map PyRd18.whole).all Rd18Neutral.asked1=true) :
  ∃ (p:Int) (n k:Nat) (g x t:List Int) (Ba:List (List (List Int))) (f':Nat),PyRd18.shape p=some (n,k)∧g.length=n∧PyFlat.calls PyRd18.shape f' t=some Ba∧cs.length=Ba.length+1 ∧
   (Ba.map PyRd18.whole).all Rd18Neutral.asked1=true∧zX p g x=true∧fD s cs=(((zm s p g x).2.length:Int)::(zm s p g x).2)++fD (zm s p g x).1 Ba ∧
   ((k=0∧x=[]∧l=p::(g++t))∨(k=1∧l=p::(g++(x.length:Int)::(x++t)))):=by
 obtain ⟨p,n,k,g,x,t,Ba,f',h1,h2,h3,h4⟩:=Ha h hl;refine ⟨p,n,k,g,x,t,Ba,f',h1,h2,h3,?_⟩;rcases h4 with ⟨rfl,rfl,e1,e2⟩ | ⟨rfl,e1,e2⟩
 ·have hc:(if PyRd18.shape p=some (g.length,1) then [p::g,([]:List Int)] else [p::g])=[p::g]:=by rw [h1];simp
  rw [e2,List.map_cons,List.all_cons,Bool.and_eq_true] at ha;refine ⟨by rw [e2];rfl,ha.2,?_,?_,.inl ⟨rfl,rfl,e1⟩⟩
  ·unfold zX;rw [hc];exact ha.1
  ·unfold zm;rw [hc,e2,zo]
 ·have hc:(if PyRd18.shape p=some (g.length,1) then [p::g,x] else [p::g])=[p::g,x]:=by rw [h1,h2];simp
  rw [e2,List.map_cons,List.all_cons,Bool.and_eq_true] at ha;refine ⟨by rw [e2];rfl,ha.2,?_,?_,.inr ⟨rfl,e1⟩⟩
  ·unfold zX;rw [hc];exact ha.1
  ·unfold zm;rw [hc,e2,zo]
theorem zY {l:List Int} (h:PyRd18.answers_asked l=true):∃ cs,PyFlat.calls PyRd18.shape l.length l=some cs∧cs.length≤300∧(cs.map PyRd18.whole).all Rd18Neutral.asked1=true∧PyRd18.answers l=fD Rd18Neutral.start cs:=by
 unfold PyRd18.answers_asked PyRd18.calls at h;unfold PyRd18.answers PyRd18.calls;cases hc:PyFlat.calls PyRd18.shape l.length l with
 | none=>rw [hc] at h;cases h
 | some cs =>
  rw [hc] at h;simp only [Bool.and_eq_true] at h;unfold PyFlat.atMost Rd18Neutral.asked at h;simp only [Bool.and_eq_true,decide_eq_true_eq,List.length_map] at h;exact ⟨cs,rfl,h.1,h.2.1,rfl⟩
noncomputable def j5 (i:Nat) (f:Nat→Bool) (j:Nat):Nat:=((List.range 8).map fun a=>if 8*j+a < i∧f (8*j+a)=true then 2 ^ a else 0).foldl (· + ·) 0
noncomputable def dO (N i:Nat) (f:Nat→Bool):List Nat:=(List.range N).map (j5 i f)
theorem eP (n:Nat) (f:Nat→Bool):dO ((n+7) / 8) n f=maskOf n f:=rfl
theorem rW (i:Nat) (f:Nat→Bool) (j:Nat):j5 i f j=(if 8*j+0 < i∧f (8*j+0)=true then 2 ^ 0 else 0)+(if 8*j+1 < i∧f (8*j+1)=true then 2 ^ 1 else 0)+(if 8*j+2 < i∧f (8*j+2)=true then 2 ^ 2 else 0)+(if 8*j+3 < i∧f (8*j+3)=true then 2 ^ 3 else 0)
  + (if 8*j+4 < i∧f (8*j+4)=true then 2 ^ 4 else 0)+(if 8*j+5 < i∧f (8*j+5)=true then 2 ^ 5 else 0)+(if 8*j+6 < i∧f (8*j+6)=true then 2 ^ 6 else 0)+(if 8*j+7 < i∧f (8*j+7)=true then 2 ^ 7 else 0):=by
 unfold j5;have e:List.range 8=[0,1,2,3,4,5,6,7]:=by decide
 rw [e];simp only [List.map_cons,List.map_nil,List.foldl_cons,List.foldl_nil,Nat.zero_add]
theorem il (i:Nat) (f:Nat→Bool) (j a:Nat) (ha:a < 8):(if 8*j+a < i+1∧f (8*j+a)=true then 2 ^ a else 0)=(if 8*j+a < i∧f (8*j+a)=true then 2 ^ a else 0)+(if (j=i / 8∧a=i % 8)∧f i=true then 2 ^ (i % 8) else 0):=by
 by_cases h:8*j+a=i
 ·have h1:j=i / 8:=by omega
  have h2:a=i % 8:=by omega
  rw [if_neg (show ¬ (8*j+a < i∧f (8*j+a)=true) by omega)];rw [h];by_cases hf:f i=true
  ·rw [if_pos ⟨by omega,hf⟩,if_pos ⟨⟨h1,h2⟩,hf⟩,h2];omega
  ·rw [if_neg (fun q=>hf q.2),if_neg (fun q=>hf q.2)]
 ·have h1:¬ (j=i / 8∧a=i % 8):=by rintro ⟨rfl,rfl⟩;omega
  rw [if_neg (show ¬ ((j=i / 8∧a=i % 8)∧f i=true) from fun q=>h1 q.1),Nat.add_zero];by_cases h2:8*j+a < i
  ·by_cases hf:f (8*j+a)=true
   ·rw [if_pos ⟨by omega,hf⟩,if_pos ⟨h2,hf⟩];simp
   ·rw [if_neg (fun q=>hf q.2),if_neg (fun q=>hf q.2)]
  ·rw [if_neg (by omega),if_neg (fun q=>h2 q.1)]
theorem ve (i:Nat) (f:Nat→Bool) (j:Nat):j5 (i+1) f j=j5 i f j+(if j=i / 8∧f i=true then 2 ^ (i % 8) else 0):=by
 rw [rW,rW];rw [il i f j 0 (by decide),il i f j 1 (by decide),il i f j 2 (by decide),il i f j 3 (by decide),il i f j 4 (by decide),il i f j 5 (by decide),il i f j 6 (by decide),il i f j 7 (by decide)];have hm:i % 8=0∨i % 8=1∨i % 8=2∨i % 8=3∨i % 8=4∨i % 8=5∨i % 8=6∨i % 8=7:=by omega
 by_cases hj:j=i / 8∧f i=true
 ·rw [if_pos hj];obtain ⟨h1,h2⟩:=hj;rcases hm with e | e | e | e | e | e | e | e <;> simp [e,h2,← h1] <;> omega
 ·rw [if_neg hj];have:∀ a,¬ ((j=i / 8∧a=i % 8)∧f i=true):=fun a q=>hj ⟨q.1.1,q.2⟩;simp only [this,if_false,Nat.add_zero]
theorem Bn (N:Nat) (f:Nat→Bool):dO N 0 f=List.replicate N 0:=by
 unfold dO;have:∀ j,j5 0 f j=0:=fun j=>by rw [rW];simp
 rw [List.eq_replicate_iff];exact ⟨by simp,fun b hb=>by obtain ⟨j,_,rfl⟩:=List.mem_map.mp hb;exact this j⟩
theorem gb (N i:Nat) (f:Nat→Bool):(dO N i f).length=N:=by unfold dO;simp
theorem CO {N i j:Nat} (f:Nat→Bool) (h:j < N):(dO N i f)[j]?=some (j5 i f j):=by unfold dO;simp [h]
theorem Fl {N i:Nat} {f:Nat→Bool} (h:f i=false):dO N (i+1) f=dO N i f:=by
 unfold dO;refine List.map_congr_left fun j _=>?_;rw [ve,h];simp
theorem CP {N i:Nat} {f:Nat→Bool} (h:f i=true) (hi:i / 8 < N):dO N (i+1) f=(dO N i f).set (i / 8) (j5 i f (i / 8)+2 ^ (i % 8)):=by
 refine List.ext_getElem (by simp [gb]) fun j h1 h2=>?_;rw [gb] at h1;rw [List.getElem_set];have e1:(dO N (i+1) f)[j]'(by rw [gb];exact h1)=j5 (i+1) f j:=by unfold dO;simp
 have e2:(dO N i f)[j]'(by rw [gb];exact h1)=j5 i f j:=by unfold dO;simp
 rw [e1,e2,ve];by_cases hj:i / 8=j
 ·subst hj;simp [h]
 ·rw [if_neg hj,if_neg (fun q=>hj q.1.symm)];rfl
theorem sX {N i:Nat} {f g:Nat→Bool} (h:∀ a,a < i→f a=g a):dO N i f=dO N i g:=by
 unfold dO;refine List.map_congr_left fun j _=>?_;unfold j5
 congr 1
 refine List.map_congr_left fun a _=>?_;by_cases q:8*j+a < i
 ·rw [h _ q]
 ·rw [if_neg (fun z=>q z.1),if_neg (fun z=>q z.1)]
theorem LJ (mask:List Nat) (i:Nat):bit mask i=decide (mask.getD (i / 8) 0 / 2 ^ (i % 8) % 2=1):=by
 unfold bit;rw [Nat.testBit_eq_decide_div_mod_eq]
theorem gc {α:Type} (l:List α) (d:α):l=(List.range l.length).map fun i=>l.getD i d:=by
 refine List.ext_getElem (by simp) fun i h1 h2=>?_;simp [h1]
theorem CQ {l:List Cell} {n:Nat} (h:l.length=n) (f:Nat→Cell):each l f=(List.range n).map fun i=>(l.getD i none).bind f:=by
 subst h;unfold each
 conv=>lhs;rw [gc l none]
 rw [List.map_map];rfl
theorem wW {l m:List Cell} {n:Nat} (h:l.length=n) (h':m.length=n) (f:Nat→Nat→Nat):both l m f=(List.range n).map fun i=>(l.getD i none).bind fun a=>(m.getD i none).map fun b=>f a b:=by
 subst h;unfold both;refine List.ext_getElem (by simp [h']) fun i h1 h2=>?_;have hi:i < l.length:=by simpa using h2
 simp [hi,h'▸hi]
theorem vf {l m o:List Cell} {n:Nat} (h:l.length=n) (h':m.length=n) (LK:o.length=n) (f:Nat→Nat→Nat→Nat):three l m o f=(List.range n).map fun i=>(l.getD i none).bind fun a=>(m.getD i none).bind fun b=>(o.getD i none).map fun c=>f a b c:=by
 subst h;unfold three;refine List.ext_getElem (by simp [h',LK]) fun i h1 h2=>?_;have hi:i < l.length:=by simpa using h2
 simp [hi,h'▸hi,LK▸hi]
theorem yN (l:List Cell):there l+missing l=l.length:=by
 unfold there missing;induction l with
 | nil=>rfl
 | cons x r ih=>cases x <;> simp [List.filter_cons] <;> omega
end NK
namespace L2
open PySem PySem.Spec PyProof.Rows
noncomputable abbrev Key:=Sum Int Str
noncomputable def vg:Key→Value→Bool
 | .inl k,v=>Value.isInt k v
 | .inr x,v=>Value.isStrOf x v
noncomputable def Qj (w:World):Key→Int
 | .inl k=>hashInt k
 | .inr x=>hashStr w x
theorem dE:∀ {k:Key} {v:Value},vg k v=true→(∃ i t,k=Sum.inl i∧v=Value.int i t)∨(∃ x t,k=Sum.inr x∧v=Value.str x t)
 | .inl i,v,h=>by
  obtain ⟨t,e⟩:=Value.isInt_shape (k:=i) (v:=v) h;exact .inl ⟨i,t,rfl,e⟩
 | .inr x,v,h=>by
  obtain ⟨t,e⟩:=Value.isStrOf_shape (x:=x) (v:=v) h;exact .inr ⟨x,t,rfl,e⟩
theorem Fn (i:Int) (t:Tok):vg (.inl i) (.int i t)=true:=by simp [vg,Value.isInt]
theorem Fo (x:Str) (t:Tok):vg (.inr x) (.str x t)=true:=by simp [vg,Value.isStrOf]
theorem LL (a b:Int):decide ((Sum.inl a:Key)=Sum.inl b)=(a == b):=by
 by_cases e:a=b
 ·subst e;simp
 ·have h:¬ (Sum.inl a:Key)=Sum.inl b:=fun q=>e (Sum.inl.inj q);rw [decide_eq_false h];exact (beq_eq_false_iff_ne.mpr e).symm
theorem LM (a b:Str):decide ((Sum.inr a:Key)=Sum.inr b)=decide (a=b):=by
 by_cases e:a=b
 ·subst e;simp
 ·have h:¬ (Sum.inr a:Key)=Sum.inr b:=fun q=>e (Sum.inr.inj q);rw [decide_eq_false h,decide_eq_false e]
theorem LN (a:Int) (b:Str):decide ((Sum.inl a:Key)=Sum.inr b)=false:=decide_eq_false (fun q=>nomatch q)
theorem LP (a:Str) (b:Int):decide ((Sum.inr a:Key)=Sum.inl b)=false:=decide_eq_false (fun q=>nomatch q)
noncomputable def fP (prog:Program) (w:World):PySem.KeyKind prog w Key where
 is:=vg
 hash:=Qj w
 inj:=fun v a b ha hb=>by
  rcases dE ha with ⟨i,t,rfl,rfl⟩ | ⟨x,t,rfl,rfl⟩
  ·rcases dE hb with ⟨j,u,rfl,e⟩ | ⟨y,u,rfl,e⟩
   ·injection e with e1 _;rw [e1]
   ·exact nomatch e
  ·rcases dE hb with ⟨j,u,rfl,e⟩ | ⟨y,u,rfl,e⟩
   ·exact nomatch e
   ·injection e with e1 _;rw [e1]
 byValue:=fun k v h=>by
  rcases dE h with ⟨i,t,rfl,rfl⟩ | ⟨x,t,rfl,rfl⟩ <;> rfl
 pyHash:=fun hv h=>by
  rcases dE hv with ⟨i,t,rfl,rfl⟩ | ⟨x,t,rfl,rfl⟩
  ·exact wpAny_pyHash_int h
  ·exact wpAny_pyHash_str h
 eqBool:=fun hu hv h=>by
  rcases dE hu with ⟨i,t,rfl,rfl⟩ | ⟨x,t,rfl,rfl⟩
  ·rcases dE hv with ⟨j,u,rfl,rfl⟩ | ⟨y,u,rfl,rfl⟩
   ·rw [LL] at h;exact wpAny_eqBool_int h
   ·rw [LN] at h;exact SeqAt.EqAt.int_str i t y u _ _ _ _ h
  ·rcases dE hv with ⟨j,u,rfl,rfl⟩ | ⟨y,u,rfl,rfl⟩
   ·rw [LP] at h;exact SeqAt.EqAt.str_int x t j u _ _ _ _ h
   ·rw [LM] at h;exact wpAny_eqBool_str h
 «strs»:=fun k x t v h=>by
  rcases dE h with ⟨i,u,rfl,e⟩ | ⟨y,u,rfl,e⟩
  ·exact nomatch e
  ·injection e with e1 _;subst e1;cases v <;> rfl
theorem Bo (prog:Program) (w:World) (i:Int) (t:Tok):(fP prog w).is (.inl i) (.int i t)=true:=Fn i t
theorem Bp (prog:Program) (w:World) (x:Str) (t:Tok):(fP prog w).is (.inr x) (.str x t)=true:=Fo x t
inductive V where
 | dR | bl (b:Bool) | int (i:Int) | str (x:Str) | GJ (b:Array UInt8) | O3 (b:UInt64) | ref (a:Addr) | ty (n:String)
 deriving DecidableEq
noncomputable def RelV:V→Value→Prop
 | .dR,u=>u=Value.none
 | .bl b,u=>u=Value.bool b
 | .int i,u=>∃ t,u=Value.int i t
 | .str x,u=>∃ t,u=Value.str x t
 | .GJ b,u=>∃ t,u=Value.bytes b t
 | .O3 b,u=>∃ t,u=Value.float b t
 | .ref a,u=>u=Value.ref a
 | .ty n,u=>u=Value.type n
noncomputable abbrev bB:List V→List Value→Prop:=Paired RelV
theorem bB.length {xs:List V} {us:List Value} (r:bB xs us):xs.length=us.length:=Paired.length r
theorem bB.get:∀ {xs:List V} {us:List Value} {i:Nat} {x:V},bB xs us→xs[i]?=some x→∃ u,us[i]?=some u∧RelV x u
 | _,_,_,_,.nil,e=>by simp at e
 | _,_,0,_,.cons r _,e=>by simp at e;subst e;exact ⟨_,rfl,r⟩
 | _,_,i+1,x,.cons _ t,e=>by
  obtain ⟨u,h1,h2⟩:=bB.get (i:=i) (x:=x) t (by simpa using e);exact ⟨u,by simpa using h1,h2⟩
theorem bB.set {x:V} {u:Value} (r:RelV x u):∀ {xs:List V} {us:List Value} (i:Nat),bB xs us→bB (xs.set i x) (us.set i u)
 | _,_,_,.nil=>.nil
 | _,_,0,.cons _ t=>.cons r t
 | _,_,i+1,.cons q t=>.cons q (bB.set r i t)
theorem bB.append:∀ {xs ys:List V} {us ws:List Value},bB xs us→bB ys ws→bB (xs++ys) (us++ws)
 | _,_,_,_,.nil,s=>s
 | _,_,_,_,.cons r t,s=>.cons r (bB.append t s)
theorem bB.take:∀ {xs:List V} {us:List Value} (n:Nat),bB xs us→bB (xs.take n) (us.take n)
 | _,_,0,_=>.nil
 | _,_,_+1,.nil=>.nil
 | _,_,n+1,.cons r t=>.cons r (bB.take n t)
theorem bB.drop:∀ {xs:List V} {us:List Value} (n:Nat),bB xs us→bB (xs.drop n) (us.drop n)
 | _,_,0,r=>r
 | _,_,_+1,.nil=>.nil
 | _,_,n+1,.cons _ t=>bB.drop n t
noncomputable def uh:Option V→Option Value→Prop
 | some v,some u=>RelV v u
 | none,none=>True
 | _,_=>False
noncomputable def KV {κ:Type}:List (κ×V)→List (κ×Value)→Prop:=Paired fun (p:κ×V) (q:κ×Value)=>p.1=q.1∧RelV p.2 q.2
noncomputable def kV:Key→V
 | .inl i=>.int i
 | .inr x=>.str x
inductive HO where
 | lst (xs:List V)
 | tup (xs:List V)
 | dK (a8:List (Key×V)) | dT (a8:List (List Key×V))
 | set (S:Int→Bool) (n:Nat)
 | ins (C dx:Addr) (fs:List (Str×V))
 | own (x:Addr)
 | xd (fs:List (Str×V))
 | met (f x:Addr)
 | Qk (lo hi:Int)
 | jD (o:Obj) (u:HO)
 | zZ (ps:Array Value)
 | ext (φ:Heap→Prop)
noncomputable abbrev Hp:=Addr→Option HO
noncomputable def upd (H:Hp) (a:Addr) (o:HO):Hp:=fun b=>if b=a then some o else H b
theorem au {H:Hp} {a:Addr} {o:HO}:upd H a o a=some o:=by unfold upd;rw [if_pos rfl]
theorem aH {H:Hp} {a b:Addr} {o:HO} (h:b≠a):upd H a o b=H b:=by unfold upd;rw [if_neg h]
theorem jE {H:Hp} {a:Addr} {o u:HO}:upd (upd H a o) a u=upd H a u:=by
 funext b;unfold upd;split <;> rfl
theorem pz {H:Hp} {a b:Addr} {o u:HO} (h:H a=some o) (h':H b=some u) (d:o≠u):a≠b:=by
 intro e;subst e;rw [h] at h';exact d (Option.some.inj h')
theorem bf {H:Hp} {a b:Addr} {o:HO} (h:H a=some o) (h':H b=none):a≠b:=by
 intro e;subst e;rw [h] at h';cases h'
section
variable (P:Program) (w:World)
noncomputable def fQ (H:Hp) (h:Heap) (a:Addr):HO→Prop
 | .lst xs=>xs.length≤sizeLine∧∃ (its:List Value) (n:Nat),bB xs its∧h.get? a=some { cls:=.type "list",data:=.seq its.toArray n }
 | .tup xs=>xs.length≤sizeLine∧∃ its:List Value,bB xs its∧IsTup h a its.toArray
 | .dK a8=>a8.length≤sizeLine∧(a == sysModules)=false∧∃ vs,KV a8 vs∧h.DictOf (fP P w) a vs
 | .dT a8=>a8.length≤sizeLine∧(a == sysModules)=false∧∃ xs:List (List Key×Addr×Value),
   Paired (fun (p:List Key×V) (q:List Key×Addr×Value)=>p.1=q.1∧H q.2.1=some (.tup (p.1.map kV))∧RelV p.2 q.2.2) a8 xs ∧
   ∃ o es ep,h.get? a=some o∧o.ExactDict∧o.data=.dict es ep∧es.toList=xs.map (entryOfKey (tupleKind (fP P w)))∧(xs.map (·.1)).Nodup
 | .set S n=>h.SetOf (intKind P w) a S n
 | .ins C dx fs=>H dx=some (.own a)∧fs.length≤1000∧dx≠a∧h.get? a=some (PySem.W.instObj C dx) ∧
   ∃ mA,h.Ns1 dx mA∧(∀ f,uh (fs.lookup f) (mA f))∧PySem.Within mA (fs.map (·.1))
 | .own _=>∃ o,h.get? a=some o
 | .xd fs=>∃ mA,h.Ns1 a mA∧∀ f,uh (fs.lookup f) (mA f)
 | .Qk lo hi=>∃ t u v,h.get? a=some { cls:=.type "range",data:=.fields #[.int lo t,.int hi u,.int 1 v] }
 | .jD o u=>h.get? a=some o∧fQ H h a u
 | .zZ ps=>h.get? a=some { cls:=.none,data:=.fields ps }
 | .met f x=>h.get? a=some (PySem.W.methodObj (.ref f) (.ref x))
 | .ext φ=>φ h∧(∃ o,h.get? a=some o)∧∀ h1 h2:Heap,φ h1→(∀ o,h1.get? a=some o→h2.get? a=some o)→φ h2
noncomputable def rX (H:Hp) (h:Heap):Prop:=∀ a o,H a=some o→fQ P w H h a o
end
section
variable {P:Program} {w:World} {H H':Hp} {h h':Heap} {a:Addr} {o:HO}
theorem fQ.lt (x:fQ P w H h a o):a < h.objs.size:=by
 cases o with
 | lst xs=>obtain ⟨_,_,_,_,e⟩:=x;exact Heap.lt_size e
 | tup xs=>obtain ⟨_,_,_,p⟩:=x;exact p.lt
 | dK a8=>obtain ⟨_,_,_,_,o,_,_,e,_⟩:=x;exact Heap.lt_size e
 | dT a8=>obtain ⟨_,_,_,_,o,_,_,e,_⟩:=x;exact Heap.lt_size e
 | set S n=>obtain ⟨o,_,_,_,e,_⟩:=x;exact Heap.lt_size e
 | ins C dx fs=>obtain ⟨_,_,_,e,_⟩:=x;exact Heap.lt_size e
 | own y=>obtain ⟨_,e⟩:=x;exact Heap.lt_size e
 | xd fs=>obtain ⟨_,⟨_,_,_,e,_⟩,_⟩:=x;exact Heap.lt_size e
 | Qk lo hi=>obtain ⟨_,_,_,e⟩:=x;exact Heap.lt_size e
 | jD ob u=>obtain ⟨e,_⟩:=x;exact Heap.lt_size e
 | zZ ps=>exact Heap.lt_size (show h.get? a=some _ from x)
 | met f y=>exact Heap.lt_size (show h.get? a=some _ from x)
 | ext φ=>obtain ⟨_,⟨_,e⟩,_⟩:=x;exact Heap.lt_size e
theorem Paired.LQ {α β:Type} {F G:α→β→Prop}:∀ {CS:List α} {CU:List β},Paired F CS CU→(∀ a b,F a b→G a b)→Paired G CS CU
 | _,_,.nil,_=>.nil
 | _,_,.cons r t,f=>.cons (f _ _ r) (Paired.LQ t f)
theorem fQ.yO (x:fQ P w H h a o) (k:∀ b u,(b=a∨H b=some (.own a))→h.get? b=some u→h'.get? b=some u)
  (ho:∀ b,H b=some (.own a)→H' b=some (.own a)) (ht:∀ b xs,H b=some (.tup xs)→H' b=some (.tup xs)):fQ P w H' h' a o:=by
 induction o with
 | lst xs=>obtain ⟨z,its,n,r,e⟩:=x;exact ⟨z,its,n,r,k _ _ (.inl rfl) e⟩
 | tup xs=>obtain ⟨z,its,r,ob,e,c⟩:=x;exact ⟨z,its,r,ob,k _ _ (.inl rfl) e,c⟩
 | dK a8=>obtain ⟨z,y,vs,r,ob,es,ep,e,c⟩:=x;exact ⟨z,y,vs,r,ob,es,ep,k _ _ (.inl rfl) e,c⟩
 | dT a8 =>
  obtain ⟨z,y,xs,r,ob,es,ep,e,c⟩:=x;exact ⟨z,y,xs,Paired.LQ r fun p q z=>⟨z.1,ht _ _ z.2.1,z.2.2⟩,ob,es,ep,k _ _ (.inl rfl) e,c⟩
 | set S n=>obtain ⟨ob,es,ep,t,e,c⟩:=x;exact ⟨ob,es,ep,t,k _ _ (.inl rfl) e,c⟩
 | ins C dx fs =>
  obtain ⟨d,z,ne,e,mA,⟨od,es,ep,e2,c⟩,r⟩:=x;exact ⟨ho _ d,z,ne,k _ _ (.inl rfl) e,mA,⟨od,es,ep,k _ _ (.inr d) e2,c⟩,r⟩
 | own y=>obtain ⟨ob,e⟩:=x;exact ⟨ob,k _ _ (.inl rfl) e⟩
 | xd fs=>obtain ⟨mA,⟨od,es,ep,e,c⟩,r⟩:=x;exact ⟨mA,⟨od,es,ep,k _ _ (.inl rfl) e,c⟩,r⟩
 | Qk lo hi=>obtain ⟨t,u,v,e⟩:=x;exact ⟨t,u,v,k _ _ (.inl rfl) e⟩
 | jD ob u ih=>obtain ⟨e,q⟩:=x;exact ⟨k _ _ (.inl rfl) e,ih q⟩
 | zZ ps =>
  have e:h.get? a=some { cls:=.none,data:=.fields ps }:=x;show h'.get? a=some { cls:=.none,data:=.fields ps };exact k a _ (.inl rfl) e
 | met f y =>
  have e:h.get? a=some (PySem.W.methodObj (.ref f) (.ref y)):=x;show h'.get? a=some (PySem.W.methodObj (.ref f) (.ref y));exact k a _ (.inl rfl) e
 | ext φ=>obtain ⟨p,⟨o,e⟩,st⟩:=x;exact ⟨st _ _ p fun o q=>k _ _ (.inl rfl) q,⟨o,k _ _ (.inl rfl) e⟩,st⟩
theorem rX.lt (x:rX P w H h) (e:H a=some o):a < h.objs.size:=(x a o e).lt
theorem rX.fresh (x:rX P w H h) (e:h.objs.size≤a):H a=none:=by
 cases q:H a with
 | none=>rfl
 | some u=>exact absurd (Nat.lt_of_lt_of_le (x.lt q) e) (Nat.lt_irrefl _)
theorem rX.kept (x:rX P w H h) (k:∀ b u,h.get? b=some u→h'.get? b=some u):rX P w H h':=fun a o e =>
 (x a o e).yO (fun b u _ q=>k b u q) (fun _ q=>q) fun _ _ q=>q
theorem rX.laid (x:rX P w H h) (k:∀ b u,h.get? b=some u→h'.get? b=some u) (hp:h.objs.size≤a) (new:fQ P w (upd H a o) h' a o):rX P w (upd H a o) h':=fun b u e=>by
 have hn:=x.fresh hp;by_cases hb:b=a
 ·subst hb;rw [au] at e;cases e;exact new
 ·rw [aH hb] at e;exact (x b u e).yO (fun c v _ q=>k c v q) (fun c q=>by rw [aH (bf q hn)];exact q) fun c xs q=>by rw [aH (bf q hn)];exact q
end
noncomputable def Rd (H:Hp) (a:Addr) (u:HO):Prop:=H a=some u∨∃ o,H a=some (.jD o u)
theorem Rd.ok {P:Program} {w:World} {H:Hp} {h:Heap} {a:Addr} {u:HO} (r:Rd H a u) (x:rX P w H h):fQ P w H h a u:=by
 rcases r with r | ⟨o,r⟩
 ·exact x a u r
 ·obtain ⟨_,q⟩:=x a _ r;exact q
noncomputable def JS:Option HO→Prop
 | some (.lst _)=>True
 | some (.dK _)=>True
 | some (.dT _)=>True
 | some (.set _ _)=>True
 | some (.ins _ _ _)=>True
 | some (.ext _)=>True
 | _=>False
section
variable {P:Program} {w:World} {H:Hp} {h h':Heap} {x e:Addr} {o':HO}
theorem rX.write (ok:rX P w H h) (mu:JS (H x)) (he:e=x∨H e=some (.own x)) (k:∀ b u,b≠e→h.get? b=some u→h'.get? b=some u) (Nc:∃ u,h'.get? e=some u)
  (new:fQ P w (upd H x o') h' x o'):rX P w (upd H x o') h':=fun b u q=>by
 have NH:∀ c y,H c=some (.own y)→c≠x:=fun c y r z=>by subst z;rw [r] at mu;exact mu
 have Ql:∀ c xs,H c=some (.tup xs)→c≠x:=fun c xs r z=>by subst z;rw [r] at mu;exact mu
 by_cases hb:b=x
 ·subst hb;rw [au] at q;cases q;exact new
 ·rw [aH hb] at q;by_cases LR:b=e
  ·have q':H b=some (.own x):=by
    rcases he with z | z
    ·exact absurd (LR.trans z) hb
    ·rw [LR];exact z
   rw [q] at q';cases q';obtain ⟨v,hv⟩:=Nc;exact ⟨v,by rw [LR];exact hv⟩
  ·refine (ok b u q).yO (fun c v hc r=>k c v ?_ r) (fun c r=>by rw [aH (NH c b r)];exact r) fun c xs r=>by rw [aH (Ql c xs r)];exact r
   rcases hc with rfl | hc
   ·exact LR
   ·rintro rfl;rcases he with z | z
    ·exact NH c b hc z
    ·rw [hc] at z;cases z;exact hb rfl
end
structure Un (fs ex:List Addr) (H H':Hp) (h h':Heap):Prop where
 keep:∀ b o,h.get? b=some o→H b=none→b∉fs→b∉ex→h'.get? b=some o
 slot:∀ b o,h.get? b=some o→H b=none→b∈fs→b∉ex→∃ sl,h'.get? b=some { o with slots:=sl }
 free:∀ b o,h.get? b=some o→H b=none→b∉ex→H' b=none
 there:∀ b o,h.get? b=some o→b∉ex→∃ o',h'.get? b=some o'
 sY:∀ b xs,H b=some (.tup xs)→H' b=some (.tup xs)
 pA:∀ b o u,H b=some (.jD o u)→H' b=some (.jD o u)
 rY:∀ b ps,H b=some (.zZ ps)→∃ more,H' b=some (.zZ (ps++more))
section
variable {fs Sj ex XM:List Addr} {H H1 H2:Hp} {h h1 h2 h':Heap} {a x e:Addr} {o:HO}
theorem Un.any (u:Un fs ex H H1 h h1) {b:Addr} {ob:Obj} (q:h.get? b=some ob) (n:H b=none) (hx:b∉ex):∃ sl,h1.get? b=some { ob with slots:=sl }:=by
 by_cases hb:b∈fs
 ·exact u.slot b ob q n hb hx
 ·exact ⟨ob.slots,u.keep b ob q n hb hx⟩
theorem Un.trans (a:Un fs ex H H1 h h1) (b:Un fs ex H1 H2 h1 h2):Un fs ex H H2 h h2 where
 keep:=fun c ob q n hc hx=>b.keep c ob (a.keep c ob q n hc hx) (a.free c ob q n hx) hc hx
 slot:=fun c ob q n hc hx=>by
  obtain ⟨sl,e1⟩:=a.slot c ob q n hc hx;obtain ⟨Qm,e2⟩:=b.slot c _ e1 (a.free c ob q n hx) hc hx;exact ⟨Qm,e2⟩
 free:=fun c ob q n hx=>by
  obtain ⟨o',e1⟩:=a.there c ob q hx;exact b.free c o' e1 (a.free c ob q n hx) hx
 there:=fun c ob q hx=>by
  obtain ⟨o',e1⟩:=a.there c ob q hx;exact b.there c o' e1 hx
 sY:=fun c xs q=>b.sY c xs (a.sY c xs q)
 pA:=fun c ob xs q=>b.pA c ob xs (a.pA c ob xs q)
 rY:=fun c ps q=>by
  obtain ⟨m1,e1⟩:=a.rY c ps q;obtain ⟨m2,e2⟩:=b.rY c _ e1;exact ⟨m1++m2,by rw [e2,Array.append_assoc]⟩
theorem Un.kept (k:∀ b u,h.get? b=some u→h'.get? b=some u):Un fs ex H H h h' :=
 ⟨fun b ob q _ _ _=>k b ob q,fun b ob q _ _ _=>⟨ob.slots,k b ob q⟩,fun _ _ _ n _=>n,fun b ob q _=>⟨ob,k b ob q⟩,fun _ _ q=>q,fun _ _ _ q=>q,fun _ ps q=>⟨#[],by rw [q];simp⟩⟩
theorem Un.refl:Un fs ex H H h h:=Un.kept fun _ _ q=>q
theorem Un.laid (k:∀ b u,h.get? b=some u→h'.get? b=some u) (hp:h.objs.size≤a) (hn:H a=none):Un fs ex H (upd H a o) h h' where
 keep:=fun b u q _ _ _=>k b u q
 slot:=fun b u q _ _ _=>⟨u.slots,k b u q⟩
 free:=fun b u q n _=>by rw [aH (Nat.ne_of_lt (Nat.lt_of_lt_of_le (Heap.lt_size q) hp))];exact n
 there:=fun b u q _=>⟨u,k b u q⟩
 sY:=fun b xs q=>by rw [aH (bf q hn)];exact q
 pA:=fun b u xs q=>by rw [aH (bf q hn)];exact q
 rY:=fun b ps q=>⟨#[],by rw [aH (bf q hn),q];simp⟩
theorem Un.write (mu:JS (H x)) (he:e=x∨H e=some (.own x)) (k:∀ b u,b≠e→h.get? b=some u→h'.get? b=some u) (Nc:∃ u,h'.get? e=some u):Un fs ex H (upd H x o) h h':=by
 have hx:∀ b,H b=none→b≠x:=fun b n z=>by subst z;rw [n] at mu;exact mu
 have hb:∀ b,H b=none→b≠e:=fun b n z=>by
  subst z;rcases he with r | r
  ·exact hx b n r
  ·rw [n] at r;cases r
 have hm:∀ b u,H b=some u→¬ JS (some u)→b≠x:=fun b u q nm z=>by subst z;rw [q] at mu;exact nm mu
 refine ⟨fun b u q n _ _=>k b u (hb b n) q,fun b u q n _ _=>⟨u.slots,k b u (hb b n) q⟩,fun b u q n _=>by rw [aH (hx b n)];exact n,fun b u q _=>?_,
  fun b xs q=>by rw [aH (hm b _ q fun z=>z)];exact q,fun b u xs q=>by rw [aH (hm b _ q fun z=>z)];exact q,fun b ps q=>⟨#[],by rw [aH (hm b _ q fun z=>z),q];simp⟩⟩
 by_cases LR:b=e
 ·subst LR;exact Nc
 ·exact ⟨u,k b u LR q⟩
end
noncomputable def O4 (h:Heap) (H:Hp):List Addr:=(List.range h.objs.size).filter fun a=>(H a).isSome
noncomputable def wX (h:Heap) (H:Hp):Heap:=PySem.W.hideAll h (O4 h H)
theorem Fp (h:Heap) (H:Hp):(wX h H).objs.size=h.objs.size:=PySem.W.hideAll_size _ _
theorem Hc {h:Heap} {H:Hp} {b:Addr} {o:Obj} (e:h.get? b=some o) (n:H b=none):(wX h H).get? b=some o :=
 PySem.W.hideAll_get _ e fun hm=>by
  have q:(H b).isSome=true:=(List.mem_filter.mp hm).2;rw [n] at q;simp at q
theorem JT {h:Heap} {H:Hp} {b:Addr} {o:Obj} (e:(wX h H).get? b=some o):h.get? b=some o∧H b=none:=by
 have e':h.get? b=some o:=PySem.W.of_hideAll (O4 h H) e;refine ⟨e',?_⟩;cases q:H b with
 | none=>rfl
 | some x =>
  have hm:b∈O4 h H:=List.mem_filter.mpr ⟨List.mem_range.mpr (Heap.lt_size e'),by simp [q]⟩;have z:(wX h H).get? b=none:=PySem.W.hideAll_none (O4 h H) hm;rw [z] at e;cases e
structure Mod (K:PySem.W.Frag) (mg:Str→Option Value) (base:Heap):Prop where
 LS:K.In base
 glob:base.Ns mainGlobals mg
 blt:∃ mb,base.Ns builtinsNs mb∧∀ x:Str,x≠"__name__"→mb x=bootBuiltins x
 nolimit:base.NoLimit
structure Cx where
 prog:Program
 w:World
 K:PySem.W.Frag
 mg:Str→Option Value
 base:Heap
 A:Around
 N:List Str
 eg:Shared
 H₀:Hp
 env:Env
 outer:List Env
 stack:List Env
 ex:List Addr
 fn:Str→Bool
 calm:Bool
 pn:List (Addr×Obj)
 xe:Value→Shared→Prop
noncomputable def wj (l:List Env):List Addr:=l.filterMap (·.frame)
noncomputable abbrev Cx.fs (X:Cx):List Addr:=wj X.outer
noncomputable def K5 (sc:Scope) (x:Str):Prop:=sc.names.lookup x=some .local∨sc.names.lookup x=some .cell∨sc.names.lookup x=some .free
noncomputable def Loc (sc:Scope) (x:Str):Prop:=sc.names.lookup x=some .local∨sc.names.lookup x=some .cell
noncomputable def Look (env:Env) (h:Heap) (m:Str→Option Value) (x:Str) (u:Value):Prop :=
 (env.kindOf x=some .local∧m x=some u)∨((env.kindOf x=some .cell∨env.kindOf x=some .free)∧∃ c,env.cells.lookup x=some c∧h.IsCell c (some u))
structure Cx.Ok (X:Cx):Prop where
 mod:Mod X.K X.mg X.base
 kind:X.env.scope.kind=.function
 glob:X.env.globals=mainGlobals
 blt:X.env.builtins=builtinsNs
 above:X.eg.heap.objs.size≤X.env.locals
 inj:∀ x y c,X.env.cells.lookup x=some c→X.env.cells.lookup y=some c→x=y
 has:∀ x,(X.env.kindOf x=some .cell∨X.env.kindOf x=some .free)→∃ c,X.env.cells.lookup x=some c
 NI:∀ x c,X.fn x=true→X.env.cells.lookup x=some c→X.eg.heap.objs.size≤c
 hd:X.calm=true→X.A.handled=none
 frames:X.A.frames=some X.stack
 O5:X.stack=X.outer∨(X.stack=X.env::X.outer∧X.env.frame=some X.env.locals)
 O6:∀ b∈X.ex,b≠X.env.locals∧∀ x c,X.env.cells.lookup x=some c→c≠b
 bs:∀ b o,X.base.get? b=some o→X.eg.heap.get? b=some o∧X.H₀ b=none
 GK:X.base.objs.size≤X.eg.heap.objs.size
 Hd:∀ b o,X.base.get? b=some o→b∉X.ex
 He:∀ b∈X.ex,b∉X.fs
 tj:X.eg.heap.FunFrames X.base X.outer
 JU:∀ b∈X.fs,X.H₀ b=none
structure Inv (X:Cx) (pins:List (Addr×Obj)) (σ:List (Option V)) (H:Hp) (s:Shared):Prop where
 ok:X.Ok
 os:s.os=X.eg.os
 bare:AllBare s.gens
 base:Un X.fs X.ex X.H₀ H X.eg.heap s.heap
 loc:∃ m,s.heap.Ns X.env.locals m∧∀ (i:Nat) (x:Str) (v:V),X.N[i]?=some x→σ[i]?=some (some v)→K5 X.env.scope x→∃ u,RelV v u∧Look X.env s.heap m x u
 cell:∀ x c,X.env.cells.lookup x=some c→∃ v,s.heap.IsCell c v
 free:H X.env.locals=none
 lW:∀ x c,X.env.cells.lookup x=some c→H c=none
 pin:∀ p∈X.pn++pins,s.heap.get? p.1=some p.2∧H p.1=none∧p.1≠X.env.locals∧p.1∉X.fs∧∀ v,p.2.data≠.cell v
 dz:rX X.prog X.w H s.heap
 len:σ.length=X.N.length
section
variable {X:Cx} {pins:List (Addr×Obj)} {σ:List (Option V)} {H H':Hp} {s:Shared} {h':Heap}
theorem Cx.Ok.Qn (ok:X.Ok) {b:Addr} {o:Obj} (e:X.base.get? b=some o):b∉X.fs:=fun hb=>by
 have:=(ok.tj.mem hb).1;rw [e] at this;cases this
theorem Inv.bs (I:Inv X pins σ H s):∀ b o,X.base.get? b=some o→s.heap.get? b=some o∧H b=none:=fun b o e =>
 ⟨I.base.keep b o (I.ok.bs b o e).1 (I.ok.bs b o e).2 (I.ok.Qn e) (I.ok.Hd b o e),I.base.free b o (I.ok.bs b o e).1 (I.ok.bs b o e).2 (I.ok.Hd b o e)⟩
theorem Inv.bk (I:Inv X pins σ H s):∀ b o,X.base.get? b=some o→s.heap.get? b=some o:=fun b o e=>(I.bs b o e).1
theorem Inv.mod (I:Inv X pins σ H s):Mod X.K X.mg X.base:=I.ok.mod
theorem Inv.CV (I:Inv X pins σ H s):X.K.In s.heap:=I.ok.mod.LS.keeps I.bk
theorem Inv.fr (I:Inv X pins σ H s):∃ m,Fr X.base X.env.locals s.heap m :=
 let ⟨m,hn,_⟩:=I.loc
 ⟨m,hn,I.bk,Nat.le_trans I.ok.GK I.ok.above⟩
theorem Inv.lt (I:Inv X pins σ H s):X.env.locals < s.heap.objs.size:=let ⟨_,hn,_⟩:=I.loc;hn.lt
theorem Inv.sz (I:Inv X pins σ H s):X.eg.heap.objs.size≤s.heap.objs.size:=Nat.le_trans I.ok.above (Nat.le_of_lt I.lt)
theorem Inv.Qo (I:Inv X pins σ H s) {a:Addr} (h:s.heap.objs.size≤a):a∉X.fs:=fun hb=>by
 obtain ⟨_,o,ho,_⟩:=I.ok.tj.mem hb;exact absurd (Nat.lt_of_lt_of_le (Heap.lt_size ho) (Nat.le_trans I.sz h)) (Nat.lt_irrefl _)
theorem Inv.LU (I:Inv X pins σ H s):∀ x c,X.env.cells.lookup x=some c→c≠X.env.locals:=fun x c e z=>by
 obtain ⟨v,o,ho,hd⟩:=I.cell x c e;obtain ⟨m,⟨o',es,ep,El,Hf,_⟩,_⟩:=I.loc;rw [z,El] at ho;cases ho;rw [Hf] at hd;cases hd
theorem Inv.tj (I:Inv X pins σ H s):s.heap.FunFrames X.base X.outer:=by
 have all:∀ (l:List Env),(∀ b∈wj l,b∈X.fs)→X.eg.heap.FunFrames X.base l→s.heap.FunFrames X.base l:=by
  intro l;induction l with
  | nil=>intro _ _;trivial
  | cons env r ih =>
   intro hs hl;obtain ⟨hk,⟨L,o,hf,hn,ho,hd⟩,hr⟩:=hl;have hL:L∈X.fs:=hs L (by unfold wj;rw [List.filterMap_cons,hf];exact List.mem_cons_self);obtain ⟨sl,e⟩:=I.base.slot L o ho (I.ok.JU L hL) hL fun z=>I.ok.He L z hL;exact ⟨hk,⟨L,_,hf,hn,e,hd⟩,ih (fun b hb=>hs b (by unfold wj;rw [List.filterMap_cons,hf];exact List.mem_cons_of_mem _ hb)) hr⟩
 exact all X.outer (fun _ hb=>hb) I.ok.tj
theorem Inv.stack (I:Inv X pins σ H s):s.heap.FunFrames X.base X.stack:=by
 rcases I.ok.O5 with e | ⟨e,hf⟩
 ·rw [e];exact I.tj
 ·rw [e];obtain ⟨m,hn,_⟩:=I.loc;refine .cons (by rw [I.ok.kind];decide) hf hn ?_ I.tj;exact Heap.get?_none_of_le (Nat.le_trans I.ok.GK I.ok.above)
theorem Inv.CW (I:Inv X pins σ H s):∀ b∈wj X.stack,b∈X.env.locals::X.fs:=fun b hb=>by
 rcases I.ok.O5 with e | ⟨e,hf⟩
 ·rw [e] at hb;exact List.mem_cons_of_mem _ hb
 ·rw [e] at hb;unfold wj at hb;rw [List.filterMap_cons,hf] at hb;exact hb
theorem Inv.Em (I:Inv X pins σ H s):∀ b∈wj X.stack,H b=none:=fun b hb=>by
 rcases List.mem_cons.mp (I.CW b hb) with e | hb
 ·rw [e];exact I.free
 ·obtain ⟨_,o,ho,_⟩:=I.ok.tj.mem hb;exact I.base.free b o ho (I.ok.JU b hb) fun z=>I.ok.He b z hb
theorem Inv.step {g':Array GenState} {t':Nat} {d':Drawn} {ch:List Addr} (I:Inv X pins σ H s)
  (GL:∀ b∈ch,(b∈X.ex∨X.eg.heap.objs.size≤b)∧b≠X.env.locals∧(∀ x c,X.env.cells.lookup x=some c→c≠b)∧∀ p∈X.pn++pins,p.1≠b)
  (keep:∀ b o,b≠X.env.locals→b∉X.fs→b∉ch→s.heap.get? b=some o→H b=none→h'.get? b=some o)
  (slot:∀ b o,b≠X.env.locals→b∈X.fs→b∉ch→s.heap.get? b=some o→H b=none→∃ sl,h'.get? b=some { o with slots:=sl }) (free:∀ b o,b∉ch→s.heap.get? b=some o→H b=none→H' b=none)
  (there:∀ b o,b∉ch→s.heap.get? b=some o→∃ o',h'.get? b=some o')
  (sY:∀ b xs,H b=some (.tup xs)→H' b=some (.tup xs)) (pA:∀ b o u,H b=some (.jD o u)→H' b=some (.jD o u)) (rY:∀ b ps,H b=some (.zZ ps)→∃ more,H' b=some (.zZ (ps++more)))
  (ns:∀ m,s.heap.Ns X.env.locals m→h'.Ns X.env.locals m) (dz:rX X.prog X.w H' h') (hg:AllBare g') :
  Inv X pins σ H' { s with heap:=h',gens:=g',drawn:=d',toks:=t' }:=by
 have Sk:∀ b o,X.eg.heap.get? b=some o→b≠X.env.locals:=fun b o e=>Nat.ne_of_lt (Nat.lt_of_lt_of_le (Heap.lt_size e) I.ok.above);have O7:∀ b o,X.eg.heap.get? b=some o→b∉X.ex→b∉ch:=fun b o e hx hb=>by
  rcases (GL b hb).1 with z | z
  ·exact hx z
  ·exact absurd (Nat.lt_of_lt_of_le (Heap.lt_size e) z) (Nat.lt_irrefl _)
 have cellK:∀ x c,X.env.cells.lookup x=some c→∀ v,s.heap.IsCell c v→h'.IsCell c v:=fun x c e v ⟨o,ho,hd⟩=>by
  have NJ:c∉ch:=fun z=>(GL c z).2.2.1 x c e rfl;by_cases hc:c∈X.fs
  ·obtain ⟨sl,q⟩:=slot c o (I.LU x c e) hc NJ ho (I.lW x c e);exact ⟨_,q,hd⟩
  ·exact ⟨o,keep c o (I.LU x c e) hc NJ ho (I.lW x c e),hd⟩
 refine ⟨I.ok,I.os,hg,⟨fun b o e n hb hx=>?_,fun b o e n hb hx=>?_,fun b o e n hx=>?_,fun b o e hx=>?_,fun b xs e=>sY b xs (I.base.sY b xs e),fun b o xs e=>pA b o xs (I.base.pA b o xs e),fun b ps e=>?_⟩,?_,fun x c e=>?_,?_,fun x c e=>?_,fun p hp=>?_,dz,I.len⟩
 ·exact keep b o (Sk b o e) hb (O7 b o e hx) (I.base.keep b o e n hb hx) (I.base.free b o e n hx)
 ·obtain ⟨sl,e1⟩:=I.base.slot b o e n hb hx;obtain ⟨Qm,e2⟩:=slot b _ (Sk b o e) hb (O7 b o e hx) e1 (I.base.free b o e n hx);exact ⟨Qm,e2⟩
 ·obtain ⟨o',e1⟩:=I.base.there b o e hx;exact free b o' (O7 b o e hx) e1 (I.base.free b o e n hx)
 ·obtain ⟨o',e1⟩:=I.base.there b o e hx;exact there b o' (O7 b o e hx) e1
 ·obtain ⟨m1,e1⟩:=I.base.rY b ps e;obtain ⟨m2,e2⟩:=rY b _ e1;exact ⟨m1++m2,by rw [e2,Array.append_assoc]⟩
 ·obtain ⟨m,hn,hl⟩:=I.loc;refine ⟨m,ns m hn,fun i x v e1 e2 e3=>?_⟩;obtain ⟨u,r,l⟩:=hl i x v e1 e2 e3;refine ⟨u,r,?_⟩;rcases l with l | ⟨k,c,e,z⟩
  ·exact .inl l
  ·exact .inr ⟨k,c,e,cellK x c e _ z⟩
 ·obtain ⟨v,z⟩:=I.cell x c e;exact ⟨v,cellK x c e v z⟩
 ·obtain ⟨m,⟨o,_,_,ho,_⟩,_⟩:=I.loc;exact free _ o (fun z=>(GL _ z).2.1 rfl) ho I.free
 ·obtain ⟨v,o,ho,hd⟩:=I.cell x c e;exact free c o (fun z=>(GL c z).2.2.1 x c e rfl) ho (I.lW x c e)
 ·obtain ⟨e,n,ne,nf,d⟩:=I.pin p hp;have NJ:p.1∉ch:=fun z=>(GL p.1 z).2.2.2 p hp rfl;exact ⟨keep p.1 p.2 ne nf NJ e n,free p.1 p.2 NJ e n,ne,nf,d⟩
theorem Inv.un {t':Nat} (I:Inv X pins σ H s) (u:Un X.fs [] H H' s.heap h') (dz:rX X.prog X.w H' h'):Inv X pins σ H' { s with heap:=h',toks:=t' }:=by
 obtain ⟨m,⟨o,es,ep,ho,r⟩,_⟩:=id I.loc;obtain ⟨sl,hL⟩:=u.any ho I.free (by simp);exact I.step (g':=s.gens) (d':=s.drawn) (ch:=[]) (fun _ z=>nomatch z) (fun b o _ hb _ e n=>u.keep b o e n hb (by simp)) (fun b o _ hb _ e n=>u.slot b o e n hb (by simp)) (fun b o _ e n=>u.free b o e n (by simp)) (fun b o _ e=>u.there b o e (by simp)) u.sY u.pA u.rY (fun m' hm=>by
  obtain ⟨o',Js,Jt,El,r'⟩:=hm;rw [ho] at El;cases El;exact ⟨_,Js,Jt,hL,r'⟩) dz I.bare
theorem Inv.call {g':Array GenState} {t':Nat} {d':Drawn} {ch:List Addr} (I:Inv X pins σ H s) (u:Un (wj X.stack) ch H H' s.heap h') (dz:rX X.prog X.w H' h') (hg:AllBare g')
  (GL:∀ b∈ch,(b∈X.ex∨X.eg.heap.objs.size≤b)∧b≠X.env.locals∧(∀ x c,X.env.cells.lookup x=some c→c≠b)∧∀ p∈X.pn++pins,p.1≠b) :
  Inv X pins σ H' { s with heap:=h',gens:=g',drawn:=d',toks:=t' }:=by
 obtain ⟨m,⟨o,es,ep,ho,r⟩,_⟩:=id I.loc;obtain ⟨sl,hL⟩:=u.any ho I.free fun z=>(GL _ z).2.1 rfl;exact I.step (ch:=ch) GL (fun b o hL hb hc e n=>u.keep b o e n (fun z=>(List.mem_cons.mp (I.CW b z)).elim hL hb) hc) (fun b o _ _ hc e n=>u.any e n hc) (fun b o hc e n=>u.free b o e n hc) (fun b o hc e=>u.there b o e hc) u.sY u.pA u.rY (fun m' hm=>by
  obtain ⟨o',Js,Jt,El,r'⟩:=hm;rw [ho] at El;cases El;exact ⟨_,Js,Jt,hL,r'⟩) dz hg
theorem Inv.turned {t':Nat} {it:Addr} (I:Inv X pins σ H s) (k:∀ b o,b≠it→s.heap.get? b=some o→h'.get? b=some o) (hn:H it=none) (hL:it≠X.env.locals)
  (h1:it∈X.ex∨X.eg.heap.objs.size≤it) (h2:∀ x c,X.env.cells.lookup x=some c→c≠it) (h3:∀ p∈X.pn++pins,p.1≠it):Inv X pins σ H { s with heap:=h',toks:=t' }:=by
 have NL:∀ b u,H b=some u→b≠it:=fun b u e z=>by rw [z,hn] at e;cases e
 refine I.step (g':=s.gens) (d':=s.drawn) (ch:=[it]) (fun b hb=>?_) (fun b o _ _ hc e _=>k b o (fun z=>hc (by simp [z])) e) (fun b o _ _ hc e _=>⟨o.slots,k b o (fun z=>hc (by simp [z])) e⟩) (fun _ _ _ _ n=>n)
  (fun b o hc e=>⟨o,k b o (fun z=>hc (by simp [z])) e⟩) (fun _ _ e=>e) (fun _ _ _ e=>e) (fun b ps e=>⟨#[],by rw [e];simp⟩) (fun m hm=>?_) (fun b u e=>?_) I.bare
 ·have e:b=it:=by simpa using hb
  subst e;exact ⟨h1,hL,h2,h3⟩
 ·obtain ⟨o,es,ep,ho,r⟩:=hm;exact ⟨o,es,ep,k _ o (Ne.symm hL) ho,r⟩
 ·refine (I.dz b u e).yO (fun c v hc q=>k c v ?_ q) (fun _ q=>q) fun _ _ q=>q;rcases hc with z | z
  ·rw [z];exact NL b u e
  ·exact NL c _ z
theorem Inv.tok (I:Inv X pins σ H s) (t:Nat):Inv X pins σ H { s with toks:=t }:=I.un (h':=s.heap) (t':=t) Un.refl I.dz
theorem Inv.kept {t':Nat} (I:Inv X pins σ H s) (k:∀ b u,s.heap.get? b=some u→h'.get? b=some u):Inv X pins σ H { s with heap:=h',toks:=t' }:=I.un (Un.kept k) (I.dz.kept k)
theorem Inv.laid {a:Addr} {o:HO} {t':Nat} (I:Inv X pins σ H s) (k:∀ b u,s.heap.get? b=some u→h'.get? b=some u) (hp:s.heap.objs.size≤a) (new:fQ X.prog X.w (upd H a o) h' a o) :
  Inv X pins σ (upd H a o) { s with heap:=h',toks:=t' }:=I.un (Un.laid k hp (I.dz.fresh hp)) (I.dz.laid k hp new)
theorem Inv.write {x e:Addr} {o:HO} {t':Nat} (I:Inv X pins σ H s) (mu:JS (H x)) (he:e=x∨H e=some (.own x)) (k:∀ b u,b≠e→s.heap.get? b=some u→h'.get? b=some u) (Nc:∃ u,h'.get? e=some u)
  (new:fQ X.prog X.w (upd H x o) h' x o):Inv X pins σ (upd H x o) { s with heap:=h',toks:=t' }:=I.un (Un.write mu he k Nc) (I.dz.write mu he k Nc new)
theorem Inv.weak {di:List (Option V)} (I:Inv X pins σ H s) (hl:di.length=σ.length) (w:∀ (i:Nat) v,di[i]?=some (some v)→σ[i]?=some (some v)):Inv X pins di H s :=
 ⟨I.ok,I.os,I.bare,I.base,let ⟨m,hn,O8⟩:=I.loc;⟨m,hn,fun i x v e1 e2 e3=>O8 i x v e1 (w i v e2) e3⟩,I.cell,I.free,I.lW,I.pin,I.dz,hl.trans I.len⟩
theorem Inv.wk {wY:List (Addr×Obj)} (I:Inv X pins σ H s) (h:∀ p∈wY,s.heap.get? p.1=some p.2∧H p.1=none∧p.1≠X.env.locals∧p.1∉X.fs∧∀ v,p.2.data≠.cell v):Inv X wY σ H s :=
 ⟨I.ok,I.os,I.bare,I.base,I.loc,I.cell,I.free,I.lW,fun p hp=>(List.mem_append.mp hp).elim (fun z=>I.pin p (List.mem_append_left _ z)) (h p),I.dz,I.len⟩
theorem wZ {N:List Str} (hN:N.Nodup) {i j:Nat} {x:Str} (a:N[i]?=some x) (b:N[j]?=some x):i=j:=by
 obtain ⟨h1,e1⟩:=List.getElem?_eq_some_iff.mp a;obtain ⟨h2,e2⟩:=List.getElem?_eq_some_iff.mp b;exact (List.getElem_inj hN).mp (e1.trans e2.symm)
theorem zp {M:Model} {A:Around} {E:Value→Shared→Prop} {i:Nat} {x:Str} {v:V} {u:Value} {Q:Unit→Shared→Prop} (I:Inv X pins σ H s) (hN:X.N.Nodup) (hi:X.N[i]?=some x) (hx:Loc X.env.scope x) (r:RelV v u)
  (h:∀ s',Inv X pins (σ.set i (some v)) H s'→(∃ a,Heap.SameBut a s.heap s'.heap∧(a=X.env.locals∨X.env.cells.lookup x=some a))→Q () s') (hf:X.fn x=true∨X.env.scope.names.lookup x=some .local:=by first | exact .inl rfl | exact .inr rfl | assumption):wpAny M A (storeName X.env x u) Q E s:=by
 obtain ⟨m,hn,hl⟩:=id I.loc;have Qp:(X.env.scope.kind == .class || (X.env.scope.kind == .module&&X.env.locals != X.env.globals))=false:=by rw [I.ok.kind];rfl
 have NM:i < σ.length:=by rw [I.len];exact (List.getElem?_eq_some_iff.mp hi).1
 have LU:=I.LU;have tracked:∀ {a:Addr} {h':Heap},(∃ o,s.heap.get? a=some o∧H a=none)→Heap.SameBut a s.heap h'→rX X.prog X.w H h':=fun {a h'} ha hs b ob e=>by
  obtain ⟨_,_,vh⟩:=ha;refine (I.dz b ob e).yO (fun c w' hc q=>(hs.2 c ?_).trans q) (fun _ q=>q) fun _ _ q=>q;rintro rfl;rcases hc with rfl | hc
  ·rw [vh] at e;cases e
  ·rw [vh] at hc;cases hc
 rcases hx with hk | hk
 ·refine wpAny_storeName_local hk hn (fun h' Us hs=>?_) Qp;obtain ⟨oL,_,_,Ut,_⟩:=id hn;refine h _ ⟨I.ok,I.os,I.bare,⟨fun b o e n hb hx=>?_,fun b o e n hb hx=>?_,I.base.free,fun b o e hx=>?_,I.base.sY,I.base.pA,I.base.rY⟩,⟨_,Us,fun j y v' e1 e2 e3=>?_⟩,fun y c e=>?_,I.free,I.lW,fun p hp=>?_,tracked ⟨oL,Ut,I.free⟩ hs,by simpa using I.len⟩ ⟨_,hs,.inl rfl⟩
  ·exact (hs.2 b (Nat.ne_of_lt (Nat.lt_of_lt_of_le (Heap.lt_size e) I.ok.above))).trans (I.base.keep b o e n hb hx)
  ·obtain ⟨sl,e1⟩:=I.base.slot b o e n hb hx;exact ⟨sl,(hs.2 b (Nat.ne_of_lt (Nat.lt_of_lt_of_le (Heap.lt_size e) I.ok.above))).trans e1⟩
  ·obtain ⟨o',e1⟩:=I.base.there b o e hx;exact ⟨o',(hs.2 b (Nat.ne_of_lt (Nat.lt_of_lt_of_le (Heap.lt_size e) I.ok.above))).trans e1⟩
  ·by_cases hj:j=i
   ·subst hj;rw [hi] at e1;cases e1;rw [List.getElem?_set_self NM] at e2;cases e2;exact ⟨u,r,.inl ⟨hk,by simp⟩⟩
   ·rw [List.getElem?_set_ne (Ne.symm hj)] at e2;obtain ⟨u',r',q⟩:=hl j y v' e1 e2 e3;refine ⟨u',r',?_⟩;rcases q with ⟨k,e⟩ | ⟨k,c,e,z⟩
    ·refine .inl ⟨k,?_⟩;have:y≠x:=fun e=>hj (wZ hN e1 (e▸hi));simp [this,e]
    ·exact .inr ⟨k,c,e,z.sameBut hs (LU y c e)⟩
  ·obtain ⟨w',z⟩:=I.cell y c e;exact ⟨w',z.sameBut hs (LU y c e)⟩
  ·obtain ⟨e,n,ne,nf,d⟩:=I.pin p hp;exact ⟨(hs.2 p.1 ne).trans e,n,ne,nf,d⟩
 ·have Qq:X.fn x=true:=by
   rcases hf with z | z
   ·exact z
   ·rw [z] at hk;cases hk
  obtain ⟨c,hc⟩:=I.ok.has x (.inl hk);obtain ⟨w',z⟩:=I.cell x c hc;refine wpAny_storeName_cell I.ok.kind hk hc z (fun h' Bb hs=>?_);obtain ⟨oc,CY,Qr⟩:=id z;refine h { s with heap:=h' } ⟨I.ok,I.os,I.bare,⟨fun b o e n hb hx=>?_,fun b o e n hb hx=>?_,I.base.free,fun b o e hx=>?_,I.base.sY,I.base.pA,I.base.rY⟩,⟨m,hn.sameBut hs (Ne.symm (LU x c hc)),fun j y v' e1 e2 e3=>?_⟩,fun y c' e=>?_,I.free,I.lW,fun p hp=>?_,tracked ⟨oc,CY,I.lW x c hc⟩ hs,by simpa using I.len⟩ ⟨c,hs,.inr hc⟩
  ·exact (hs.2 b (Nat.ne_of_lt (Nat.lt_of_lt_of_le (Heap.lt_size e) (I.ok.NI x c Qq hc)))).trans (I.base.keep b o e n hb hx)
  ·obtain ⟨sl,e1⟩:=I.base.slot b o e n hb hx;exact ⟨sl,(hs.2 b (Nat.ne_of_lt (Nat.lt_of_lt_of_le (Heap.lt_size e) (I.ok.NI x c Qq hc)))).trans e1⟩
  ·obtain ⟨o',e1⟩:=I.base.there b o e hx;exact ⟨o',(hs.2 b (Nat.ne_of_lt (Nat.lt_of_lt_of_le (Heap.lt_size e) (I.ok.NI x c Qq hc)))).trans e1⟩
  ·by_cases hj:j=i
   ·subst hj;rw [hi] at e1;cases e1;rw [List.getElem?_set_self NM] at e2;cases e2;exact ⟨u,r,.inr ⟨.inl hk,c,hc,Bb⟩⟩
   ·rw [List.getElem?_set_ne (Ne.symm hj)] at e2;obtain ⟨u',r',q⟩:=hl j y v' e1 e2 e3;refine ⟨u',r',?_⟩;rcases q with q | ⟨k,c',e,z'⟩
    ·exact .inl q
    ·refine .inr ⟨k,c',e,z'.sameBut hs ?_⟩;rintro rfl;exact hj (wZ hN e1 (I.ok.inj _ _ _ e hc▸hi))
  ·by_cases En:c'=c
   ·subst En;exact ⟨_,Bb⟩
   ·obtain ⟨w2,z2⟩:=I.cell y c' e;exact ⟨w2,z2.sameBut hs En⟩
  ·obtain ⟨e,n,ne,nf,d⟩:=I.pin p hp;refine ⟨(hs.2 p.1 ?_).trans e,n,ne,nf,d⟩;intro q;rw [q,CY] at e;have q':oc=p.2:=Option.some.inj e;exact d w' (by rw [← q'];exact Qr)
theorem Bq {M:Model} {A:Around} {E:Value→Shared→Prop} {i:Nat} {x:Str} {v:V} {u:Value} {Q:Unit→Shared→Prop} (I:Inv X pins σ H s) (hN:X.N.Nodup) (hi:X.N[i]?=some x) (hx:Loc X.env.scope x) (r:RelV v u)
  (h:∀ s',Inv X pins (σ.set i (some v)) H s'→Q () s') (hf:X.fn x=true∨X.env.scope.names.lookup x=some .local:=by first | exact .inl rfl | exact .inr rfl | assumption):wpAny M A (storeName X.env x u) Q E s :=
 zp I hN hi hx r (fun s' I' _=>h s' I') hf
theorem Inv.K6 {s':Shared} {ch:List Addr} (I:Inv X pins σ H s) (ho:s'.os=s.os) (u:Un (wj X.stack) ch H H' s.heap s'.heap) (dz:rX X.prog X.w H' s'.heap) (hg:AllBare s'.gens)
  (GL:∀ b∈ch,(b∈X.ex∨X.eg.heap.objs.size≤b)∧b≠X.env.locals∧(∀ x c,X.env.cells.lookup x=some c→c≠b)∧∀ p∈X.pn++pins,p.1≠b):Inv X pins σ H' s':=by
 obtain ⟨h',g',d',t',o'⟩:=s';have e:o'=s.os:=ho;subst e;exact I.call (g':=g') (t':=t') (d':=d') u dz hg GL
end
noncomputable abbrev XK:=Value→Option Addr→Hp→Prop
noncomputable abbrev St:=List (Option V)
noncomputable abbrev VK:=V→Hp→Prop
noncomputable abbrev TE:=St→Hp→VK→Prop
noncomputable abbrev TT:=St→Hp→(Bool→Hp→Prop)→Prop
noncomputable abbrev TA:=St→Hp→(List V→Hp→Prop)→Prop
structure Ends where
 nx:St→Hp→Prop
 rt:VK
 bk:St→Hp→Prop:=fun _ _=>False
 ct:St→Hp→Prop:=fun _ _=>False
noncomputable abbrev TS:=Ends→St→Hp→Prop
noncomputable def EP (X:Cx) (pins:List (Addr×Obj)) (σ:St) (Q:VK) (u:Value) (s':Shared):Prop:=∃ v H',Inv X pins σ H' s'∧RelV v u∧Q v H'
noncomputable def TP (X:Cx) (pins:List (Addr×Obj)) (σ:St) (Q:Bool→Hp→Prop) (b:Bool) (s':Shared):Prop:=∃ H',Inv X pins σ H' s'∧Q b H'
noncomputable def AP (X:Cx) (pins:List (Addr×Obj)) (σ:St) (Q:List V→Hp→Prop) (us:List Value) (s':Shared):Prop:=∃ vs H',Inv X pins σ H' s'∧bB vs us∧Q vs H'
noncomputable def SP (X:Cx) (pins:List (Addr×Obj)) (D:Ends) (f:Flow) (s':Shared):Prop :=
 match f with
 | .next=>∃ di H',Inv X pins di H' s'∧D.nx di H'
 | .brk=>∃ di H',Inv X pins di H' s'∧D.bk di H'
 | .cont=>∃ di H',Inv X pins di H' s'∧D.ct di H'
 | .ret u=>∃ v di H',Inv X pins di H' s'∧RelV v u∧D.rt v H'
noncomputable def PE (X:Cx) (e:Expr) (t:TE):Prop :=
 ∀ (pins:List (Addr×Obj)) (s:Shared) (σ:St) (H:Hp) (Q:VK),Inv X pins σ H s→t σ H Q→wpAny (model X.prog X.w) X.A (eval e X.env) (EP X pins σ Q) X.xe s
noncomputable def PT (X:Cx) (e:Expr) (t:TT):Prop :=
 ∀ (pins:List (Addr×Obj)) (s:Shared) (σ:St) (H:Hp) (Q:Bool→Hp→Prop),Inv X pins σ H s→t σ H Q→wpAny (model X.prog X.w) X.A (isTrue e X.env (eval e X.env)) (TP X pins σ Q) X.xe s
noncomputable def PW (X:Cx) (e:Expr) (t:TT):Prop :=
 ∀ (whole:Sem Value) (pins:List (Addr×Obj)) (s:Shared) (σ:St) (H:Hp) (Q:Bool→Hp→Prop),Inv X pins σ H s→t σ H Q→wpAny (model X.prog X.w) X.A (isTrue e X.env whole) (TP X pins σ Q) X.xe s
theorem PW.pt {X:Cx} {e:Expr} {t:TT} (h:PW X e t):PT X e t:=h _
noncomputable def PA (X:Cx) (es:List Expr) (t:TA):Prop :=
 ∀ (pos:Pos) (pins:List (Addr×Obj)) (s:Shared) (σ:St) (H:Hp) (Q:List V→Hp→Prop),Inv X pins σ H s→t σ H Q→wpAny (model X.prog X.w) X.A (spliced (backTo pos (starEach es X.env))) (AP X pins σ Q) X.xe s
noncomputable def PS (X:Cx) (st:Stmt) (t:TS):Prop :=
 ∀ (pins:List (Addr×Obj)) (s:Shared) (σ:St) (H:Hp) (D:Ends),Inv X pins σ H s→t D σ H→wpAny (model X.prog X.w) X.A (exec st X.env) (SP X pins D) X.xe s
noncomputable def Br (X:Cx) (st:List Stmt) (t:TS):Prop :=
 ∀ (pins:List (Addr×Obj)) (s:Shared) (σ:St) (H:Hp) (D:Ends),Inv X pins σ H s→t D σ H→wpAny (model X.prog X.w) X.A (execs st X.env) (SP X pins D) X.xe s
theorem dP {α:Type} {t:Sem α} {Q Q':α→Shared→Prop} {M:Model} {A:Around} {E:Value→Shared→Prop} {s:Shared} (h:wpAny M A t Q E s) (hQ:∀ a s,Q a s→Q' a s):wpAny M A t Q' E s:=wpAny_mono h hQ fun _ _ x=>x
section
variable {X:Cx}
theorem bin {a b:Expr} {ta tb:TE} (ha:PE X a ta) (hb:PE X b tb) {pins:List (Addr×Obj)} {s:Shared} {σ:St} {H:Hp} {R:V→V→Hp→Prop} (I:Inv X pins σ H s) (h:ta σ H fun x H1=>tb σ H1 fun y H2=>R x y H2)
  {α:Type} {Q:α→Shared→Prop} {f:Value→Value→Sem α}
  (hf:∀ v u s2 x y H2,Inv X pins σ H2 s2→RelV x v→RelV y u→R x y H2→wpAny (model X.prog X.w) X.A (f v u) Q X.xe s2) :
  wpAny (model X.prog X.w) X.A (eval a X.env) (fun v cF=>wpAny (model X.prog X.w) X.A (eval b X.env) (fun u nr=>wpAny (model X.prog X.w) X.A (f v u) Q X.xe nr) X.xe cF) X.xe s:=by
 refine dP (ha pins s σ H _ I h) fun v s1 ⟨x,H1,I1,r1,q1⟩=>?_;refine dP (hb pins s1 σ H1 _ I1 q1) fun u s2 ⟨y,H2,I2,r2,q2⟩=>?_;exact hf v u s2 x y H2 I2 r1 r2 q2
noncomputable def tVar (i:Nat):TE:=fun σ H Q=>∃ v,σ[i]?=some (some v)∧Q v H
noncomputable def tC (v:V):TE:=fun _ H Q=>Q v H
theorem LV {i:Nat} {x:Str} {pos:Pos} (hN:X.N[i]?=some x) (hv:K5 X.env.scope x) (hd:(x == ("__debug__":Str))=false:=by decide) (nW:(x == ("__classdict__":Str))=false:=by decide):PE X (.Name x pos) (tVar i):=by
 intro pins s σ H Q I h;obtain ⟨v,e,h⟩:=h;obtain ⟨m,hn,hl⟩:=I.loc;obtain ⟨u,r,l⟩:=hl i x v hN e hv;have fin:EP X pins σ Q u s:=⟨v,H,I,r,h⟩;rcases l with ⟨hk,hm⟩ | ⟨hk,c,hc,w4⟩
 ·exact wpAny_Name (wpAny_loadName_local I.ok.kind hk hn hm fin) hd
 ·rcases hk with hk | hk
  ·exact wpAny_Name (wpAny_loadName_cell I.ok.kind hk hc w4 fin) hd
  ·exact wpAny_Name (wpAny_loadName_free I.ok.kind hk hc w4 fin nW) hd
theorem ar {i j pos}:PE X (.Constant (.int i) j pos) (tC (.int i)):=fun _ _ _ H _ I h=>wpAny_Constant_int ⟨.int i,H,I.tok _,⟨_,rfl⟩,h⟩
theorem tm {b j pos}:PE X (.Constant (.bool b) j pos) (tC (.bl b)):=fun _ _ _ H _ I h=>Constant_bool ⟨.bl b,H,I,rfl,h⟩
theorem n8 {j pos}:PE X (.Constant .none j pos) (tC .dR):=fun _ _ _ H _ I h=>Constant_none ⟨.dR,H,I,rfl,h⟩
noncomputable def Gl (X:Cx) (x:Str):Prop:=X.env.kindOf x=some .globalImplicit
theorem qE {E:Value→Shared→Prop} {pins:List (Addr×Obj)} {s:Shared} {σ:St} {H:Hp} {x:Str} {u:Value} {pos:Pos} {Q:Value→Shared→Prop} (I:Inv X pins σ H s) (hg:Gl X x) (hm:X.mg x=some u) (h:Q u s)
  (hd:(x == ("__debug__":Str))=false:=by decide):wpAny (model X.prog X.w) X.A (eval (.Name x pos) X.env) Q E s :=
 Calls.Name_function_global I.ok.kind hg (Calls.loadGlobal_global (by rw [I.ok.glob];exact I.mod.glob.keeps I.bk) hm h) hd
theorem w6 {E:Value→Shared→Prop} {pins:List (Addr×Obj)} {s:Shared} {σ:St} {H:Hp} {x:Str} {u:Value} {pos:Pos} {Q:Value→Shared→Prop} (I:Inv X pins σ H s) (hg:Gl X x) (hm:X.mg x=none) (hv:bootBuiltins x=some u) (h:Q u s)
  (hn:x≠"__name__":=by decide) (hd:(x == ("__debug__":Str))=false:=by decide):wpAny (model X.prog X.w) X.A (eval (.Name x pos) X.env) Q E s:=by
 obtain ⟨mb,h1,h2⟩:=I.mod.blt;exact Calls.Name_function_global I.ok.kind hg (Calls.loadGlobal_builtin (by rw [I.ok.glob];exact I.mod.glob.keeps I.bk) hm (by rw [I.ok.blt];exact h1.keeps I.bk) ((h2 x hn).trans hv) h) hd
theorem z0 {x:Str} {v:V} {u:Value} {pos:Pos} (hg:Gl X x) (hm:X.mg x=some u) (r:RelV v u) (hd:(x == ("__debug__":Str))=false:=by decide):PE X (.Name x pos) (tC v) :=
 fun _ _ _ H _ I h=>qE I hg hm ⟨v,H,I,r,h⟩ hd
variable {a b:Expr} {ta tb:TE} {pos:Pos}
noncomputable def PC (X:Cx) (op:CmpOp) (a b:Expr) (t:TE):Prop :=
 ∀ (pins:List (Addr×Obj)) (s:Shared) (σ:St) (H:Hp) (Q:VK),Inv X pins σ H s→t σ H Q →
  wpAny (model X.prog X.w) X.A (eval a X.env) (fun v cF=>wpAny (model X.prog X.w) X.A (eval b X.env) (fun u nr=>wpAny (model X.prog X.w) X.A (compareOp op v u) (EP X pins σ Q) X.xe nr) X.xe cF) X.xe s
noncomputable def tB (t:TE):TT:=fun σ H Q=>t σ H fun x H1=>∃ c,x=.bl c∧Q c H1
theorem LW {op:CmpOp} {t:TE} (h:PC X op a b t) (h1:behindInMarks op b=false:=by first | exact Hg _ (by decide) (by decide) | rfl):PE X (.Compare a [op] [b] pos) t:=fun pins s σ H Q I hw=>wpAny_Compare1 (h pins s σ H Q I hw) h1
theorem Hh {op:CmpOp} {t:TE} (h:PC X op a b t) (h1:behindInMarks op b=false:=by first | exact Hg _ (by decide) (by decide) | rfl):PT X (.Compare a [op] [b] pos) (tB t):=by
 intro pins s σ H Q I hw;refine wpAny_isTrue_Compare1 (dP (h pins s σ H _ I hw) fun v s1 h1=>dP h1 fun u s2 h2=>dP h2 fun c s3 ⟨x,H1,I1,r1,q1⟩=>?_) h1;obtain ⟨d,rfl,q⟩:=q1;cases r1;exact wpAny_truthy_bool ⟨H1,I1,q⟩
theorem aN {e:Expr} {t:TE} (h:PE X e t) (he:∀ whole,isTrue e X.env whole=(do let v ← whole;standAt e.pos;holding [v] (truthy v)):=by intro _;rfl):PT X e (tB t):=by
 intro pins s σ H Q I hw;refine isTrue_plain (dP (h pins s σ H _ I hw) fun v s1 ⟨x,H1,I1,r1,q1⟩=>?_) (he _);obtain ⟨d,rfl,q⟩:=q1;cases r1;exact wpAny_truthy_bool ⟨H1,I1,q⟩
variable {tA O9:TT} {rest:List Expr}
noncomputable def tAnd (t u:TT):TT:=fun σ H Q=>t σ H fun c H1=>if c=true then u σ H1 Q else Q false H1
noncomputable def tOr (t u:TT):TT:=fun σ H Q=>t σ H fun c H1=>if c=true then Q true H1 else u σ H1 Q
noncomputable def tNot (t:TT):TT:=fun σ H Q=>t σ H fun c H1=>Q (!c) H1
theorem gx (ha:PT X a tA):PW X (.BoolOp .And [a] pos) tA:=by
 intro wh pins s σ H Q I h;refine isTrue_and (dP (ha pins s σ H Q I h) fun c s1 e=>?_);cases c with
 | true=>exact isTrue_and_nil e
 | false=>exact e
theorem hW (ha:PT X a tA):PW X (.BoolOp .Or [a] pos) tA:=by
 intro wh pins s σ H Q I h;refine isTrue_or (dP (ha pins s σ H Q I h) fun c s1 e=>?_);cases c with
 | false=>exact isTrue_or_nil e
 | true=>exact e
theorem fK (ha:PT X a tA) (hb:PW X (.BoolOp .And (b::rest) pos) O9):PW X (.BoolOp .And (a::b::rest) pos) (tAnd tA O9):=by
 intro wh pins s σ H Q I h;refine isTrue_and (dP (ha pins s σ H _ I h) fun c s1 ⟨H1,I1,q1⟩=>?_);cases c with
 | true=>exact hb wh pins s1 σ H1 Q I1 q1
 | false=>exact ⟨H1,I1,q1⟩
theorem ku (ha:PT X a tA) (hb:PW X (.BoolOp .Or (b::rest) pos) O9):PW X (.BoolOp .Or (a::b::rest) pos) (tOr tA O9):=by
 intro wh pins s σ H Q I h;refine isTrue_or (dP (ha pins s σ H _ I h) fun c s1 ⟨H1,I1,q1⟩=>?_);cases c with
 | true=>exact ⟨H1,I1,q1⟩
 | false=>exact hb wh pins s1 σ H1 Q I1 q1
theorem eU (ha:PT X a tA):PT X (.UnaryOp .Not a pos) (tNot tA):=by
 intro pins s σ H Q I h;exact isTrue_not (ha pins s σ H (fun c H1=>Q (!c) H1) I h)
noncomputable def tAndV (ta tb:TE):TE:=fun σ H Q=>ta σ H fun x H1=>∃ c,x=.bl c∧if c=true then tb σ H1 Q else Q (.bl false) H1
noncomputable def tOrV (ta tb:TE):TE:=fun σ H Q=>ta σ H fun x H1=>∃ c,x=.bl c∧if c=true then Q (.bl true) H1 else tb σ H1 Q
noncomputable def tNotV (ta:TE):TE:=fun σ H Q=>ta σ H fun x H1=>∃ c,x=.bl c∧Q (.bl (!c)) H1
theorem Hj {op} {t:TE} (h:PE X a t):PE X (.BoolOp op [a] pos) t:=fun pins s σ H Q I hw=>BoolOp_one (h pins s σ H Q I hw)
theorem Hk (ha:PE X a ta) (hb:PE X (.BoolOp .And (b::rest) pos) tb):PE X (.BoolOp .And (a::b::rest) pos) (tAndV ta tb):=by
 intro pins s σ H Q I h;refine BoolOp_and (dP (ha pins s σ H _ I h) fun v s1 ⟨x,H1,I1,r1,q1⟩=>?_);obtain ⟨c,rfl,q1⟩:=q1;cases r1;refine wpAny_truthy_bool ?_;cases c with
 | true=>exact hb pins s1 σ H1 Q I1 q1
 | false=>exact ⟨.bl false,H1,I1,rfl,q1⟩
noncomputable def tIf (t:TT) (ta tb:TE):TE:=fun σ H Q=>t σ H fun c H1=>if c=true then ta σ H1 Q else tb σ H1 Q
theorem br {c:Expr} (hc:PT X c tA) (ha:PE X a ta) (hb:PE X b tb):PE X (.IfExp c a b pos) (tIf tA ta tb):=by
 intro pins s σ H Q I h;refine wpAny_IfExp (dP (hc pins s σ H _ I h) fun d s1 ⟨H1,I1,q1⟩=>?_);cases d with
 | true=>exact ha pins s1 σ H1 Q I1 q1
 | false=>exact hb pins s1 σ H1 Q I1 q1
end
noncomputable def bU (K:PySem.W.Frag) (H:Hp) (a:Addr) (xs:List V):Prop :=
 Rd H a (.lst xs) ∨
  ∃ (o:Obj) (its:Array Value) (n:Nat),K.lookup a=some o∧o.cls=.type "list"∧o.dict=none∧o.data=.seq its n∧its.size≤sizeLine∧bB xs its.toList
noncomputable def vi (K:PySem.W.Frag) (H:Hp) (a:Addr) (xs:List V):Prop :=
 Rd H a (.tup xs) ∨
  ∃ (o:Obj) (its:Array Value) (n:Nat),K.lookup a=some o∧o.cls=.type "tuple"∧o.data=.seq its n∧its.size≤sizeLine∧bB xs its.toList
noncomputable def Qs:Value→Option V
 | .none=>some .dR
 | .bool b=>some (.bl b)
 | .int i _=>some (.int i)
 | .str x _=>some (.str x)
 | .bytes b _=>some (.GJ b)
 | .float b _=>some (.O3 b)
 | .ref a=>some (.ref a)
 | .type n=>some (.ty n)
 | _=>none
theorem RelV.abs {x:V} {u:Value} (r:RelV x u):Qs u=some x:=by
 cases x with
 | dR=>cases r;rfl
 | bl _=>cases r;rfl
 | int _=>obtain ⟨t,rfl⟩:=r;rfl
 | str _=>obtain ⟨t,rfl⟩:=r;rfl
 | GJ _=>obtain ⟨t,rfl⟩:=r;rfl
 | O3 _=>obtain ⟨t,rfl⟩:=r;rfl
 | ref _=>cases r;rfl
 | ty _=>cases r;rfl
theorem RelV.inj {x y:V} {u:Value} (r:RelV x u) (q:RelV y u):x=y:=Option.some.inj (r.abs.symm.trans q.abs)
theorem bB.inj:∀ {xs ys:List V} {us:List Value},bB xs us→bB ys us→xs=ys
 | _,_,_,.nil,.nil=>rfl
 | _,_,_,.cons r t,.cons r' t'=>by rw [r.inj r',bB.inj t t']
section
variable {X:Cx} {pins:List (Addr×Obj)} {σ:St} {H:Hp} {s:Shared} {a:Addr} {xs ys:List V}
theorem bU.of {K:PySem.W.Frag} (h:H a=some (.lst xs)):bU K H a xs:=.inl (.inl h)
theorem vi.of {K:PySem.W.Frag} (h:H a=some (.tup xs)):vi K H a xs:=.inl (.inl h)
theorem Inv.list (I:Inv X pins σ H s) (h:bU X.K H a xs):∃ its:List Value,bB xs its∧PlainL s.heap a its.toArray∧xs.length≤sizeLine:=by
 rcases h with h | ⟨o,its,n,hk,hc,hd,hs,hz,r⟩
 ·obtain ⟨z,its,n,r,e⟩:=h.ok I.dz;exact ⟨its,r,⟨_,n,e,rfl,rfl,rfl⟩,z⟩
 ·refine ⟨its.toList,r,⟨o,n,I.CV a o hk,hc,hd,by simpa using hs⟩,?_⟩;have e:=r.length;simp only [Array.length_toList] at e;omega
theorem Inv.tuple (I:Inv X pins σ H s) (h:vi X.K H a xs):∃ its:List Value,bB xs its∧IsTup s.heap a its.toArray∧xs.length≤sizeLine:=by
 rcases h with h | ⟨o,its,n,hk,hc,hs,hz,r⟩
 ·obtain ⟨z,its,r,p⟩:=h.ok I.dz;exact ⟨its,r,p,z⟩
 ·refine ⟨its.toList,r,⟨o,I.CV a o hk,hc,n,by simpa using hs⟩,?_⟩;have e:=r.length;simp only [Array.length_toList] at e;omega
theorem Inv.Bs (I:Inv X pins σ H s) (h:bU X.K H a xs) (h':bU X.K H a ys):xs=ys:=by
 obtain ⟨its,r,⟨o,n,e,_,_,d⟩,_⟩:=I.list h;obtain ⟨nu,r',⟨o',n',e',_,_,d'⟩,_⟩:=I.list h';rw [e] at e';cases e';rw [d] at d';injection d' with d1 _;have:its=nu:=by simpa using congrArg Array.toList d1
 subst this;exact r.inj r'
end
noncomputable abbrev Cx.yP (X:Cx) (E:Value→Shared→Prop):Cx:={ X with xe:=E }
noncomputable abbrev Cx.JV (X:Cx):Cx:=X.yP fun _ _=>False
theorem Cx.Ok.yP {X:Cx} (ok:X.Ok) (E:Value→Shared→Prop):(X.yP E).Ok :=
 ⟨ok.mod,ok.kind,ok.glob,ok.blt,ok.above,ok.inj,ok.has,ok.NI,ok.hd,ok.frames,ok.O5,ok.O6,ok.bs,ok.GK,ok.Hd,ok.He,ok.tj,ok.JU⟩
theorem Cx.Ok.pB {X:Cx} {E:Value→Shared→Prop} (ok:(X.yP E).Ok):X.Ok :=
 ⟨ok.mod,ok.kind,ok.glob,ok.blt,ok.above,ok.inj,ok.has,ok.NI,ok.hd,ok.frames,ok.O5,ok.O6,ok.bs,ok.GK,ok.Hd,ok.He,ok.tj,ok.JU⟩
section
variable {X:Cx} {pins:List (Addr×Obj)} {σ:St} {H:Hp} {s:Shared} {E:Value→Shared→Prop}
theorem Inv.yP (I:Inv X pins σ H s) (E:Value→Shared→Prop):Inv (X.yP E) pins σ H s:=⟨I.ok.yP E,I.os,I.bare,I.base,I.loc,I.cell,I.free,I.lW,I.pin,I.dz,I.len⟩
theorem Inv.pB (I:Inv (X.yP E) pins σ H s):Inv X pins σ H s:=⟨I.ok.pB,I.os,I.bare,I.base,I.loc,I.cell,I.free,I.lW,I.pin,I.dz,I.len⟩
theorem SP.pB {D:Ends} {f:Flow} {s':Shared} (h:SP (X.yP E) pins D f s'):SP X pins D f s':=by
 cases f with
 | next=>obtain ⟨di,H',I,q⟩:=h;exact ⟨di,H',I.pB,q⟩
 | brk=>obtain ⟨di,H',I,q⟩:=h;exact ⟨di,H',I.pB,q⟩
 | cont=>obtain ⟨di,H',I,q⟩:=h;exact ⟨di,H',I.pB,q⟩
 | ret u=>obtain ⟨v,di,H',I,r,q⟩:=h;exact ⟨v,di,H',I.pB,r,q⟩
theorem Br.JV {st:List Stmt} {t:TS} (h:Br X.JV st t):Br X st t:=fun pins s σ H D I hw =>
 wpAny_mono (h pins s σ H D (I.yP _) hw) (fun _ _ q=>q.pB) fun _ _ z=>False.elim z
end
section
variable {X:Cx} {st:Stmt} {rest:List Stmt} {t u:TS} {e:Expr} {te:TE} {pos:Pos}
noncomputable def tNext:TS:=fun D σ H=>D.nx σ H
noncomputable def tSeq (t u:TS):TS:=fun D σ H=>t { D with nx:=u D } σ H
theorem aw:Br X [] tNext:=fun _ _ σ H _ I h=>wpAny_execs_nil ⟨σ,H,I,h⟩
theorem ai (h1:PS X st t) (h2:Br X rest u):Br X (st::rest) (tSeq t u):=by
 intro pins s σ H D I h;refine wpAny_execs_cons (dP (h1 pins s σ H { D with nx:=u D } I h) fun f s1 q=>?_);cases f with
 | next =>
  obtain ⟨di,H',I',q⟩:=q;exact h2 pins s1 di H' D I' q
 | ret v=>exact q
 | brk=>exact q
 | cont=>exact q
theorem aj (h1:PS X st t):Br X [st] t:=by
 intro pins s σ H D I h;refine wpAny_execs_cons (dP (h1 pins s σ H D I h) fun f s1 q=>?_);cases f with
 | next=>exact wpAny_execs_nil q
 | ret v=>exact q
 | brk=>exact q
 | cont=>exact q
theorem Inv.quiet {pins:List (Addr×Obj)} {σ:St} {H:Hp} {s:Shared} (I:Inv X pins σ H s):interactive X.env=false:=by simp [interactive,I.ok.kind]
noncomputable def zq (te:TE):TS:=fun D σ H=>te σ H fun _ H1=>D.nx σ H1
theorem lX (he:PE X e te) (hs:swapsWith e none pos.line X.env=pure false:=by rfl):PS X (.Expr e pos) (zq te):=by
 intro pins s σ H D I h;exact wpAny_Expr_any (dP (he pins s σ H _ I h) fun v s1 ⟨x,H1,I1,r1,q1⟩=>⟨σ,H1,I1,q1⟩) I.quiet hs
noncomputable def tRet (te:TE):TS:=fun D σ H=>te σ H D.rt
theorem ao (he:PE X e te):PS X (.Return (some e) pos) (tRet te):=by
 intro pins s σ H D I h;exact wpAny_Return_some (dP (he pins s σ H _ I h) fun v s1 ⟨x,H1,I1,r1,q1⟩=>⟨x,σ,H1,I1,r1,q1⟩)
noncomputable def tIfS (c:TT) (t u:TS):TS:=fun D σ H=>c σ H fun b H1=>if b=true then t D σ H1 else u D σ H1
theorem aR {c:Expr} {a b:List Stmt} {tc:TT} (hc:PT X c tc) (ha:Br X a t) (hb:Br X b u):PS X (.If c a b pos) (tIfS tc t u):=by
 intro pins s σ H D I h;refine wpAny_If (dP (hc pins s σ H _ I h) fun d s1 ⟨H1,I1,q1⟩=>?_);cases d with
 | true=>exact ha pins s1 σ H1 D I1 q1
 | false=>exact hb pins s1 σ H1 D I1 q1
end
noncomputable abbrev TG:=V→St→Hp→(St→Hp→Prop)→Prop
noncomputable abbrev K7:=List V→St→Hp→(St→Hp→Prop)→Prop
noncomputable def PG (X:Cx) (target:Expr) (t:TG):Prop :=
 ∀ (pins:List (Addr×Obj)) (s:Shared) (σ:St) (H:Hp) (v:V) (u:Value) (Q:St→Hp→Prop),Inv X pins σ H s→RelV v u→t v σ H Q →
  wpAny (model X.prog X.w) X.A (assign target X.env u) (fun _ s'=>∃ di H',Inv X pins di H' s'∧Q di H') X.xe s
noncomputable def NN (X:Cx) (ts:List Expr) (t:K7):Prop :=
 ∀ (pins:List (Addr×Obj)) (s:Shared) (σ:St) (H:Hp) (vs:List V) (us:List Value) (Q:St→Hp→Prop),Inv X pins σ H s→bB vs us→t vs σ H Q →
  wpAny (model X.prog X.w) X.A (assignInOrder ((assignEach ts X.env).map (·.2)) us) (fun _ s'=>∃ di H',Inv X pins di H' s'∧Q di H') X.xe s
noncomputable abbrev LX:=V→V→V→Hp→(Hp→Prop)→Prop
noncomputable def NO (X:Cx) (t:LX):Prop :=
 ∀ (pins:List (Addr×Obj)) (s:Shared) (σ:St) (H:Hp) (o i v:V) (ov iv u:Value) (Q:Hp→Prop),Inv X pins σ H s→RelV o ov→RelV i iv→RelV v u→t o i v H Q →
  wpAny (model X.prog X.w) X.A (setItem ov iv u) (fun _ s'=>∃ H',Inv X pins σ H' s'∧Q H') X.xe s
noncomputable abbrev Pa:=V→V→Hp→VK→Prop
noncomputable def Sl (X:Cx) (op:Operator) (t:Pa):Prop :=
 ∀ (pins:List (Addr×Obj)) (s:Shared) (σ:St) (H:Hp) (x y:V) (v u:Value) (Q:VK),Inv X pins σ H s→RelV x v→RelV y u→t x y H Q →
  wpAny (model X.prog X.w) X.A (inplaceOp op v u) (EP X pins σ Q) X.xe s
section
variable {X:Cx} {pos:Pos}
noncomputable def gName (i:Nat):TG:=fun v σ H Q=>Q (σ.set i (some v)) H
theorem bZ {i:Nat} {x:Str} (hN:X.N.Nodup) (hi:X.N[i]?=some x) (hx:Loc X.env.scope x) (hf:X.fn x=true∨X.env.scope.names.lookup x=some .local:=by first | exact .inl rfl | exact .inr rfl | assumption):PG X (.Name x pos) (gName i):=by
 intro pins s σ H v u Q I r h;exact wpAny_assign_Name (Bq I hN hi hx r (fun s' I'=>⟨_,H,I',h⟩) hf)
noncomputable def Qt:K7:=fun vs σ H Q=>vs=[]∧Q σ H
noncomputable def NP (t:TG) (u:K7):K7:=fun vs σ H Q=>∃ v r,vs=v::r∧t v σ H fun di H'=>u r di H' Q
theorem Eo:NN X [] Qt:=by
 intro pins s σ H vs us Q I r h;obtain ⟨e,h⟩:=h;subst e;cases r;exact assignInOrder_nil ⟨σ,H,I,h⟩
theorem tp {e:Expr} {es:List Expr} {t:TG} {u:K7} (h1:PG X e t) (h2:NN X es u)
  (hs:(assignEach (e::es) X.env).map (·.2)=assign e X.env::(assignEach es X.env).map (·.2):=by rfl):NN X (e::es) (NP t u):=by
 intro pins s σ H vs us Q I r h;obtain ⟨v,vr,e1,h⟩:=h;subst e1;cases r with
 | cons r rr =>
  rw [hs];refine assignInOrder_cons (dP (h1 pins s σ H _ _ _ I r h) fun _ s1 ⟨Nd,H1,I1,q1⟩=>?_);exact h2 pins s1 Nd H1 _ _ Q I1 rr q1
noncomputable def NQ (K:PySem.W.Frag) (n:Nat) (t:K7):TG:=fun v σ H Q=>∃ a xs,v=.ref a∧vi K H a xs∧xs.length=n∧t xs σ H Q
theorem Hl {es:List Expr} {k:Nat} {t:K7} {n:Nat} (hc:X.calm=true) (h:NN X es t)
  (hn:(assignEach es X.env).length=n:=by rfl) (Jr:(assignEach es X.env).findIdx? (·.1)=none:=by rfl):PG X (.Tuple es k pos) (NQ X.K n t):=by
 intro pins s σ H v u Q I r hw;obtain ⟨a,xs,e1,hq,hl,hw⟩:=hw;subst e1;cases r;obtain ⟨its,rv,ht,hz⟩:=I.tuple hq;refine assign_Tuple_tuple (I.ok.hd hc) ht (by simp [hn,← hl,rv.length]) Jr fun h' hx=>?_;have I1:Inv X pins σ H { s with heap:=h' }:=I.kept (t':=s.toks) fun b o e=>hx b o (Nat.ne_of_lt (Heap.lt_size e)) e;exact h pins _ σ H xs _ Q I1 (by simpa using rv) hw
noncomputable def tAsg (te:TE) (g:TG):TS:=fun D σ H=>te σ H fun x H1=>g x σ H1 D.nx
theorem aO {i:Nat} {x:Str} {e:Expr} {te:TE} {pos':Pos} (hN:X.N.Nodup) (hi:X.N[i]?=some x) (hx:Loc X.env.scope x) (he:PE X e te) (hs:swapsWith e (some (.Name x pos')) pos.line X.env=pure false:=by rfl) (hf:X.fn x=true∨X.env.scope.names.lookup x=some .local:=by first | exact .inl rfl | exact .inr rfl | assumption) :
  PS X (.Assign [.Name x pos'] e pos) (tAsg te (gName i)):=by
 intro pins s σ H D I h;refine wpAny_Assign_Name (dP (he pins s σ H _ I h) fun v s1 ⟨y,H1,I1,r1,q1⟩=>?_) hs;exact Bq I1 hN hi hx r1 (fun s2 I2=>⟨_,H1,I2,q1⟩) hf
noncomputable def NR (to ti te:TE) (JW:V→V→Hp→VK→Prop) (Pb:Pa) (JX:LX):TS:=fun D σ H=>to σ H fun o H1=>ti σ H1 fun i H2=>JW o i H2 fun x H3=>te σ H3 fun y H4=>Pb x y H4 fun z H5=>JX o i z H5 fun H6=>D.nx σ H6
noncomputable def NS (X:Cx) (t:V→V→Hp→VK→Prop):Prop :=
 ∀ (pins:List (Addr×Obj)) (s:Shared) (σ:St) (H:Hp) (o i:V) (ov iv:Value) (Q:VK),Inv X pins σ H s→RelV o ov→RelV i iv→t o i H Q →
  wpAny (model X.prog X.w) X.A (getItem ov iv) (EP X pins σ Q) X.xe s
theorem Ep {o i e:Expr} {to ti te:TE} {JW:V→V→Hp→VK→Prop} {Pb:Pa} {JX:LX} {op:Operator} {CZ:Pos} (ho:PE X o to) (hi:PE X i ti) (hg:NS X JW) (he:PE X e te) (hp:Sl X op Pb) (hs:NO X JX)
  (ha:∀ ov iv new,augStore i ov iv new=(do holding [new,ov,iv] (setItem ov iv new);release [new,ov,iv] [];pure .next):=by intros;rfl):PS X (.AugAssign (.Subscript o i CZ) op e pos) (NR to ti te JW Pb JX):=by
 intro pins s σ H D I h;refine wpAny_AugAssign_SubscriptAny (dP (ho pins s σ H _ I h) fun ov s1 ⟨x1,H1,I1,r1,q1⟩=>?_) ha;refine dP (hi pins s1 σ H1 _ I1 q1) fun iv s2 ⟨x2,H2,I2,r2,q2⟩=>?_;refine dP (hg pins s2 σ H2 x1 x2 ov iv _ I2 r1 r2 q2) fun old s3 ⟨x3,H3,I3,r3,q3⟩=>?_;refine dP (he pins s3 σ H3 _ I3 q3) fun v s4 ⟨x4,H4,I4,r4,q4⟩=>?_;refine dP (hp pins s4 σ H4 x3 x4 old v _ I4 r3 r4 q4) fun new s5 ⟨x5,H5,I5,r5,q5⟩=>?_;exact dP (hs pins s5 σ H5 x1 x2 x5 ov iv new _ I5 r1 r2 r5 q5) fun _ s6 ⟨H6,I6,q6⟩=>⟨σ,H6,I6,q6⟩
noncomputable def Uu (f:Int→Int→Int):Pa:=fun x y H Q=>∃ i j,x=.int i∧y=.int j∧Q (.int (f i j)) H
theorem Hm:Sl X .Add (Uu fun i j=>i+j):=by
 intro pins s σ H x y v u Q I r1 r2 h;obtain ⟨i,j,e1,e2,q⟩:=h;subst e1;subst e2;obtain ⟨t,rfl⟩:=r1;obtain ⟨t',rfl⟩:=r2;exact iadd_int ⟨.int _,H,I.tok _,⟨_,rfl⟩,q⟩
end
section
variable {X:Cx} {pos:Pos}
noncomputable def Hn (c:TT) (tb:TS):TS:=fun D σ H=>∃ W:Nat→St→Hp→Prop,(∃ m,W m σ H)∧∀ m σ H,W m σ H →
 c σ H fun b H1=>if b=true then ∃ N:St→Hp→Prop,(∀ di H',N di H'→∃ m',m' < m∧W m' di H')∧tb { D with nx:=N,ct:=N,bk:=D.nx } σ H1 else D.nx σ H1
theorem Ho {c:Expr} {body:List Stmt} {tc:TT} {tb:TS} (hp:PassesOwn (model X.prog X.w) X.A X.env X.xe) (hc:PT X c tc) (hb:Br X body tb):PS X (.While c body [] pos) (Hn tc tb):=by
 intro pins s σ H D I h;obtain ⟨W,⟨m0,w0⟩,turn⟩:=h;refine wpAny_While (codeAny_whileLoop (fun n s'=>∃ di H',Inv X pins di H' s'∧W n di H') ?_ m0 ⟨σ,H,I,w0⟩);rintro n s1 ⟨Nd,H1,I1,w1⟩;refine wpAny_passesOwn hp (dP (hc pins s1 Nd H1 _ I1 (turn n Nd H1 w1)) fun b s2 ⟨H2,I2,q2⟩=>?_);cases b with
 | true =>
  obtain ⟨N,hN,q2⟩:=q2;rw [if_pos rfl];refine wpAny_passesOwn hp (dP (hb pins s2 Nd H2 _ I2 q2) fun f s3 q3=>?_);cases f with
  | next =>
   obtain ⟨Hq,H3,I3,n3⟩:=q3;obtain ⟨m',hm,w3⟩:=hN Hq H3 n3;exact ⟨m',hm,Hq,H3,I3,w3⟩
  | cont =>
   obtain ⟨Hq,H3,I3,n3⟩:=q3;obtain ⟨m',hm,w3⟩:=hN Hq H3 n3;exact ⟨m',hm,Hq,H3,I3,w3⟩
  | brk=>exact q3
  | ret v=>exact q3
 | false =>
  rw [if_neg Bool.false_ne_true];exact wpAny_execs_nil ⟨Nd,H2,I2,q2⟩
end
structure It where
 go:Nat→Hp→Prop
 Fq:Nat→Hp→V→Hp→Prop
 stop:Nat→Hp→Prop
noncomputable def kD (X:Cx) (pins:List (Addr×Obj)) (H:Hp) (b:Addr):Prop :=
 H b=none∧b≠X.env.locals∧b∉X.fs∧(b∈X.ex∨X.eg.heap.objs.size≤b)∧(∀ x c,X.env.cells.lookup x=some c→c≠b)∧∀ p∈X.pn++pins,p.1≠b
theorem Inv.z4 {X:Cx} {pins:List (Addr×Obj)} {σ:St} {H H':Hp} {s:Shared} {b:Addr} (I:Inv X pins σ H s) (hb:s.heap.objs.size≤b) (hn:H' b=none):kD X pins H' b:=by
 refine ⟨hn,Nat.ne_of_gt (Nat.lt_of_lt_of_le I.lt hb),I.Qo hb,.inr (Nat.le_trans I.sz hb),fun x c e z=>?_,fun p hp z=>?_⟩
 ·obtain ⟨v,q⟩:=I.cell x c e;exact absurd (Nat.lt_of_lt_of_le q.lt (by rw [z];exact hb)) (Nat.lt_irrefl _)
 ·exact absurd (Nat.lt_of_lt_of_le (Heap.lt_size (I.pin p hp).1) (by rw [z];exact hb)) (Nat.lt_irrefl _)
structure Turn (P:Program) (w:World) (K:PySem.W.Frag) (tg:Expr) (J:It) (fp:List Addr) (it:Addr) (tn:Nat→Heap→Prop):Prop where
 mem:it∈fp
 obj:∀ i h,tn i h→∀ b∈fp,∃ o,h.get? b=some o∧∀ v,o.data≠.cell v
 keep:∀ i h h',tn i h→(∀ b∈fp,∀ o,h.get? b=some o→h'.get? b=some o)→tn i h'
 item:∀ (X:Cx),X.prog=P→X.w=w→X.K=K→X.calm=true→∀ (i:Nat) (pins:List (Addr×Obj)) (s:Shared) (σ:St) (H:Hp) (E:Value→Shared→Prop),Inv X pins σ H s→(∀ b∈fp,kD X pins H b)→tn i s.heap→J.go i H →
  wpAny (model P w) X.A (pyNext (.ref it)) (fun r s1=>∃ u,r=some u ∧
   wpAny (model P w) X.A (letOwnedTupleGo tg (.ref it) u) (fun _ s2=>∃ x H',Inv X pins σ H' s2∧RelV x u∧J.Fq i H x H'∧tn (i+1) s2.heap∧∀ b∈fp,H' b=none) E s1) E s
 done:∀ (X:Cx),X.prog=P→X.w=w→X.K=K→X.calm=true→∀ (i:Nat) (pins:List (Addr×Obj)) (s:Shared) (σ:St) (H:Hp) (E:Value→Shared→Prop),Inv X pins σ H s→(∀ b∈fp,kD X pins H b)→tn i s.heap→J.stop i H →
  wpAny (model P w) X.A (pyNext (.ref it)) (fun r s1=>r=none∧Inv X pins σ H s1) E s
 self:∀ (A:Around) (i:Nat) (s:Shared) (Q:Value→Shared→Prop) (E:Value→Shared→Prop),tn i s.heap→Q (.ref it) s→wpAny (model P w) A (pyIter (.ref it)) Q E s
noncomputable abbrev TI:=St→Hp→(It→Hp→Prop)→Prop
noncomputable def Qu (X:Cx) (pins:List (Addr×Obj)) (σ:St) (tg:Expr) (R:It→Hp→Prop) (Qv:Value) (s2:Shared):Prop :=
 ∃ (it:Addr) (fp:List Addr) (tn:Nat→Heap→Prop) (J:It) (H':Hp),Qv=.ref it∧Inv X pins σ H' s2∧Turn X.prog X.w X.K tg J fp it tn∧tn 0 s2.heap∧(∀ b∈fp,kD X pins H' b)∧R J H'
noncomputable def PI (X:Cx) (tg iter:Expr) (wi:TI):Prop :=
 ∀ (pins:List (Addr×Obj)) (s:Shared) (σ:St) (H:Hp) (R:It→Hp→Prop),Inv X pins σ H s→wi σ H R →
  wpAny (model X.prog X.w) X.A (eval iter X.env) (fun v s1=>wpAny (model X.prog X.w) X.A (pyIter v) (Qu X pins σ tg R) X.xe s1) X.xe s
theorem Er {M:Model} {A:Around} {E:Value→Shared→Prop} {s:Shared} {tg:Expr} {it:Addr} {u:Value} {o:Obj} {n:String} {vs:Array Value} {Q:Unit→Shared→Prop} (ho:s.heap.get? it=some o) (hc:o.cls=.type n) (hd:o.data=.fields vs)
    (hn:["enumerate","zip","dict_itemiterator","dict_reverseitemiterator","odict_iterator","itertools.zip_longest","itertools.pairwise"].contains n=false) (hQ:Q () s):wpAny M A (letOwnedTupleGo tg (.ref it) u) Q E s:=by
  unfold letOwnedTupleGo;cases tg <;> first
    | exact wpAny_pure hQ
    | (cases u <;> first
        | exact wpAny_pure hQ
        | (refine wpAny_bind (wpAny_load ho ?_)
           rw [hc,hd];show wpAny M A (if (["enumerate","zip","dict_itemiterator","dict_reverseitemiterator","odict_iterator","itertools.zip_longest","itertools.pairwise"].contains n&&vs[0]? == some (rawInt _))=true then _ else _) Q E s;rw [if_neg (by intro h;rw [hn,Bool.false_and] at h;cases h)];exact wpAny_pure hQ))
noncomputable def Es (K:PySem.W.Frag) (a:Addr):It :=
 ⟨fun i H=>∃ xs x,bU K H a xs∧xs[i]?=some x,fun i H x H'=>H'=H∧∀ xs,bU K H a xs→xs[i]?=some x,fun i H=>∃ xs,bU K H a xs∧xs.length≤i⟩
noncomputable def GN (lo:Int) (n:Nat):It:=⟨fun i _=>i < n,fun i H x H'=>H'=H∧x=.int (lo+i),fun i _=>n≤i⟩
theorem Fs {P:Program} {w:World} {K:PySem.W.Frag} {tg:Expr} (a it:Addr):Turn P w K tg (Es K a) [it] it (fun i h=>h.IsListIter it a i) where
 mem:=by simp
 obj:=fun i h st b hb=>by
  have e:b=it:=by simpa using hb
  subst e;obtain ⟨o,e,c,d⟩:=st;exact ⟨o,e,fun v z=>by rw [d] at z;cases z⟩
 keep:=fun i h h' st k=>st.at fun o e=>k it (by simp) o e
 item:=by
  intro X hP hw hK hc i pins s σ H E I hf st hg;subst hP hw hK;obtain ⟨xs,x,hq,hx⟩:=hg;obtain ⟨its,rv,p,hz⟩:=I.list hq;obtain ⟨u,hu,ru⟩:=rv.get hx;obtain ⟨f0,f1,f2,f3,f4,f5⟩:=hf it (by simp);refine wpAny_pyNext_list_item st p.isList (x:=u) (by simpa using hu) fun h' GO sb=>?_;have I1:Inv X pins σ H { s with heap:=h' }:=I.turned (t':=s.toks) (fun b o hb e=>(sb.2 b hb).trans e) f0 f1 f3 f4 f5;obtain ⟨o,e,c,d⟩:=id GO;exact ⟨u,rfl,Er (s:={ s with heap:=h' }) e c d (by decide) ⟨x,H,I1,ru,⟨rfl,fun ys hy=>by rw [I.Bs hy hq];exact hx⟩,GO,fun b hb=>(hf b hb).1⟩⟩
 done:=by
  intro X hP hw hK hc i pins s σ H E I hf st hg;subst hP hw hK;obtain ⟨xs,hq,hx⟩:=hg;obtain ⟨its,rv,p,hz⟩:=I.list hq;obtain ⟨f0,f1,f2,f3,f4,f5⟩:=hf it (by simp);have hl:=rv.length;exact wpAny_pyNext_list_end (I.ok.hd hc) st p.isList (by simp;omega) fun h' eb=>⟨rfl,I.turned (t':=s.toks) (fun b o hb e=>eb b o hb e) f0 f1 f3 f4 f5⟩
 self:=fun _ _ _ _ _ st h=>wpAny_pyIter_listiter st h
theorem C0 {P:Program} {w:World} {K:PySem.W.Frag} {tg:Expr} (it:Addr) (lo:Int) (n:Nat):Turn P w K tg (GN lo n) [it] it (fun i h=>IsRangeIter h it (lo+(i:Nat)*1) ((n:Int) - (i:Nat)) 1) where
 mem:=by simp
 obj:=fun i h st b hb=>by
  have e:b=it:=by simpa using hb
  subst e;exact ⟨_,st,fun v z=>by
   have z':Data.fields _=Data.cell v:=z;cases z'⟩
 keep:=fun i h h' st k=>k it (by simp) _ st
 item:=by
  intro X hP hw hK hc i pins s σ H E I hf st hg;subst hP hw hK;obtain ⟨f0,f1,f2,f3,f4,f5⟩:=hf it (by simp);have W:=Walks.range (prog:=X.prog) (w:=X.w) (I.ok.hd hc) it lo 1 n;refine W.item i s _ _ hg st fun v h' tk hv GO kk=>?_;obtain ⟨t,rfl⟩:=hv;have I1:Inv X pins σ H { s with heap:=h',toks:=tk }:=I.turned (fun b o hb e=>kk b o (by simpa using hb) e) f0 f1 f3 f4 f5;refine ⟨_,rfl,Er (s:={ s with heap:=h',toks:=tk }) (n:="range_iterator") GO rfl rfl (by decide) ⟨.int (lo+i),H,I1,⟨t,?_⟩,⟨rfl,rfl⟩,GO,fun b hb=>(hf b hb).1⟩⟩;rw [Int.mul_one]
 done:=by
  intro X hP hw hK hc i pins s σ H E I hf st hg;subst hP hw hK;obtain ⟨f0,f1,f2,f3,f4,f5⟩:=hf it (by simp);exact wpAny_pyNext_range_end (I.ok.hd hc) st (by have:n≤i:=hg;omega) fun h' eb=>⟨rfl,I.turned (t':=s.toks) (fun b o hb e=>eb b o hb e) f0 f1 f3 f4 f5⟩
 self:=fun _ _ _ _ _ st h=>wpAny_pyIter_rangeiter st h
section
variable {X:Cx} {tg:Expr}
noncomputable def K8 (K:PySem.W.Frag) (tl:TE):TI:=fun σ H R=>tl σ H fun x H1=>∃ a,x=.ref a∧(∃ xs,bU K H1 a xs)∧R (Es K a) H1
theorem dA {l:Expr} {tl:TE} (hl:PE X l tl):PI X tg l (K8 X.K tl):=by
 intro pins s σ H R I h;refine dP (hl pins s σ H _ I h) fun v s1 ⟨x,H1,I1,r1,q1⟩=>?_;obtain ⟨a,e,⟨xs,hq⟩,q⟩:=q1;subst e;cases r1;obtain ⟨its,rv,p,hz⟩:=I1.list hq;refine wpAny_pyIter_list p.isList ?_;refine ⟨s1.heap.objs.size,[s1.heap.objs.size],_,_,H1,rfl,I1.kept (t':=s1.toks) fun b o e=>Heap.get?_push_of_some _ e,Fs a _,⟨_,Heap.get?_push_size _ rfl,rfl,rfl⟩,fun b hb=>?_,q⟩;have e:b=s1.heap.objs.size:=by simpa using hb
 subst e;exact I1.z4 (Nat.le_refl _) (I1.dz.fresh (Nat.le_refl _))
theorem Hr {pins:List (Addr×Obj)} {σ:St} {H:Hp} {s:Shared} {R:It→Hp→Prop} {E:Value→Shared→Prop} {lo hi:Int} {t u v:Tok} {tk:Nat} (I:Inv X pins σ H s) (h1:-(2 ^ 62)≤lo) (h2:lo < 2 ^ 62) (h3:-(2 ^ 62)≤hi) (h4:hi < 2 ^ 62)
  (q:R (GN lo (hi - lo).toNat) H):wpAny (model X.prog X.w) X.A (pyIter (.ref s.heap.objs.size)) (Qu X pins σ tg R) E { s with heap:=s.heap.push { cls:=.type "range",data:=.fields #[.int lo t,.int hi u,.int 1 v] },toks:=tk }:=by
 refine wpAny_pyIter_range (IsRange.new ..) (small_one h1 h2 h3 h4) ?_;have I1:Inv X pins σ H { s with heap:=s.heap.push { cls:=.type "range",data:=.fields #[.int lo t,.int hi u,.int 1 v] },toks:=tk }:=I.kept fun b o e=>Heap.get?_push_of_some _ e;refine ⟨(s.heap.push { cls:=.type "range",data:=.fields #[.int lo t,.int hi u,.int 1 v] }).objs.size,[(s.heap.push { cls:=.type "range",data:=.fields #[.int lo t,.int hi u,.int 1 v] }).objs.size],_,_,H,rfl,
  I1.kept (t':=tk) fun b o e=>Heap.get?_push_of_some _ e,C0 _ lo (hi - lo).toNat,?_,fun b hb=>?_,q⟩
 ·have e1:lo+((0:Nat):Int)*1=lo:=by simp
  have e2:(((hi - lo).toNat:Nat):Int) - ((0:Nat):Int)=Builtin.Range.rangeSize lo hi 1:=by rw [rangeSize_one];split <;> omega
  show IsRangeIter _ _ (lo+((0:Nat):Int)*1) ((((hi - lo).toNat:Nat):Int) - ((0:Nat):Int)) 1;rw [e1,e2];exact Heap.get?_push_size _ rfl
 ·have e:b=(s.heap.push { cls:=.type "range",data:=.fields #[.int lo t,.int hi u,.int 1 v] }).objs.size:=by simpa using hb
  subst e;exact I1.z4 (Nat.le_refl _) (I1.dz.fresh (Nat.le_refl _))
noncomputable def NT (ta:TA):TI:=fun σ H R=>ta σ H fun vs H1=>∃ j:Int,vs=[.int j]∧-(2 ^ 62)≤j∧j < 2 ^ 62∧R (GN 0 j.toNat) H1
theorem qF {a:Expr} {ta:TA} {p pos:Pos} (hg:Gl X "range") (hm:X.mg "range"=none) (ha:PA X [a] ta) (hs:starEach [a] X.env=[(false,eval a X.env)]:=by rfl):PI X tg (.Call (.Name "range" p) [a] [] pos) (NT ta):=by
 intro pins s σ H R I h;refine Call_ (w6 I hg hm boot_range (PyProof.Rows.callWith_type1 (dP (ha pos pins s σ H _ I h) fun us s1 ⟨vs,H1,I1,r1,q1⟩=>?_) hs rfl));obtain ⟨j,e,q1,q2,q⟩:=q1;subst e;cases r1 with
 | cons r rr =>
  cases rr;obtain ⟨t,rfl⟩:=r;exact call_range_1 (Hr I1 (by omega) (by omega) q1 q2 (by simpa using q))
noncomputable def Qw (wi:TI) (g:TG) (tb:TS):TS:=fun D σ H=>wi σ H fun J H1=>∃ W:Nat→Nat→St→Hp→Prop,(∃ m,W 0 m σ H1)∧∀ i m σ H,W i m σ H →
 (J.stop i H∧D.nx σ H)∨(J.go i H∧∃ N:St→Hp→Prop,(∀ di H',N di H'→∃ m',m' < m∧W (i+1) m' di H')∧∀ x H',J.Fq i H x H'→g x σ H' fun gy H2=>tb { D with nx:=N,ct:=N,bk:=D.nx } gy H2)
noncomputable def w8 (fp:List Addr) (h:Heap):List (Addr×Obj):=fp.filterMap fun b=>(h.get? b).map fun o=>(b,o)
theorem rZ {fp:List Addr} {h:Heap} {b:Addr} {o:Obj} (hb:b∈fp) (e:h.get? b=some o):(b,o)∈w8 fp h:=List.mem_filterMap.mpr ⟨b,hb,by rw [e];rfl⟩
theorem Ft {fp:List Addr} {h:Heap} {p:Addr×Obj} (hp:p∈w8 fp h):p.1∈fp∧h.get? p.1=some p.2:=by
 obtain ⟨b,hb,e⟩:=List.mem_filterMap.mp hp;cases q:h.get? b with
 | none=>rw [q] at e;cases e
 | some o =>
  rw [q] at e;have e':(b,o)=p:=Option.some.inj e;subst e';exact ⟨hb,q⟩
theorem Inv.pinned {pins:List (Addr×Obj)} {σ:St} {H:Hp} {s:Shared} {fp:List Addr} (I:Inv X pins σ H s) (hf:∀ b∈fp,kD X pins H b) (ho:∀ b∈fp,∃ o,s.heap.get? b=some o∧∀ v,o.data≠.cell v):Inv X (pins++w8 fp s.heap) σ H s :=
 I.wk fun p hp=>(List.mem_append.mp hp).elim (fun z=>I.pin p (List.mem_append_right _ z)) fun z=>by
  obtain ⟨hb,e⟩:=Ft z;obtain ⟨f0,f1,f2,_⟩:=hf p.1 hb;obtain ⟨o,e',d⟩:=ho p.1 hb;rw [e] at e';cases e';exact ⟨e,f0,f1,f2,d⟩
theorem Inv.tq {pins pl:List (Addr×Obj)} {σ:St} {H:Hp} {s:Shared} (I:Inv X (pins++pl) σ H s):Inv X pins σ H s:=I.wk fun p hp=>I.pin p (List.mem_append_right _ (List.mem_append_left _ hp))
theorem w9 {iter:Expr} {body:List Stmt} {wi:TI} {g:TG} {tb:TS} {pos:Pos} (hp:PassesOwn (model X.prog X.w) X.A X.env X.xe) (hc:X.calm=true) (hi:PI X tg iter wi) (hg:PG X tg g) (hb:Br X body tb)
  (hs:∀ x,foldedSetIterable iter X.env x=pure x:=by intro _;rfl):PS X (.For tg iter body [] pos) (Qw wi g tb):=by
 intro pins s σ H D I h;refine wpAny_For (dP (hi pins s σ H _ I h) fun v s1 h1=>dP h1 fun Qv s2 h2=>?_) hs;obtain ⟨it,fp,tn,J,H2,e,I2,T,Pc,f2,W,⟨m0,w0⟩,turn⟩:=h2;subst e
 -- what stays true of the LY objects through the loop
 have C1:∀ {H':Hp},(∀ b∈fp,H' b=none)→∀ b∈fp,kD X pins H' b:=fun hn b hb=>⟨hn b hb,(f2 b hb).2⟩;refine codeAny_forLoop_any (fun n s'=>∃ i di H',Inv X pins di H' s'∧tn i s'.heap∧(∀ b∈fp,H' b=none)∧W i n di H') ?_ m0 ⟨0,σ,H2,I2,Pc,fun b hb=>(f2 b hb).1,w0⟩;rintro n s3 ⟨i,Hq,H3,I3,Pd,Sm,w3⟩;rcases turn i n Hq H3 w3 with ⟨stop,qn⟩ | ⟨go,N,hN,step⟩
 ·refine wpAny_passesOwn hp (dP (T.done X rfl rfl rfl hc i pins s3 Hq H3 X.xe I3 (C1 Sm) Pd stop) fun r s4 ⟨hr,I4⟩=>?_);subst hr;exact wpAny_execs_nil ⟨Hq,H3,I4,qn⟩
 ·refine wpAny_passesOwn hp (dP (T.item X rfl rfl rfl hc i pins s3 Hq H3 X.xe I3 (C1 Sm) Pd go) fun r s4 ⟨u,hr,h4⟩=>?_);subst hr;refine wpAny_passesOwn hp (dP h4 fun _ s5 ⟨x,H5,I5,r5,y5,Nf,Uv⟩=>?_);have Uw:=I5.pinned (C1 Uv) (T.obj _ _ Nf);refine wpAny_passesOwn hp (dP (hg _ s5 Hq H5 x u _ Uw r5 (step x H5 y5)) fun _ s6 ⟨Ux,H6,I6,q6⟩=>?_);refine wpAny_passesOwn hp (dP (hb _ s6 Ux H6 _ I6 q6) fun f s7 q7=>?_);have again:∀ {Hs:St} {H7:Hp},Inv X (pins++w8 fp s5.heap) Hs H7 s7→N Hs H7→∃ m,m < n∧∃ i di H',Inv X pins di H' s7∧tn i s7.heap∧(∀ b∈fp,H' b=none)∧W i m di H':=fun {Hs H7} I7 n7=>by
   obtain ⟨m',hm,w7⟩:=hN Hs H7 n7;refine ⟨m',hm,i+1,Hs,H7,I7.tq,T.keep _ _ _ Nf fun b hb o e=>(I7.pin (b,o) (List.mem_append_right _ (List.mem_append_right _ (rZ hb e)))).1,fun b hb=>?_,w7⟩;obtain ⟨o,e,d⟩:=T.obj _ _ Nf b hb;exact (I7.pin (b,o) (List.mem_append_right _ (List.mem_append_right _ (rZ hb e)))).2.1
  cases f with
  | next=>obtain ⟨Hs,H7,I7,n7⟩:=q7;exact again I7 n7
  | cont=>obtain ⟨Hs,H7,I7,n7⟩:=q7;exact again I7 n7
  | brk=>obtain ⟨Hs,H7,I7,q7⟩:=q7;exact ⟨Hs,H7,I7.tq,q7⟩
  | ret v=>obtain ⟨x7,Hs,H7,I7,r7,q7⟩:=q7;exact ⟨x7,Hs,H7,I7.tq,r7,q7⟩
end
theorem Bt {K:PySem.W.Frag} {a:Addr} {xs:List V} {g:TG} {tb:TS} {D:Ends} {σ:St} {H:Hp} (Pv:Nat→St→Hp→Prop) (h0:Pv 0 σ H) (hl:∀ i σ H,i≤xs.length→Pv i σ H→bU K H a xs)
  (hs:∀ i x σ H,xs[i]?=some x→Pv i σ H→g x σ H fun gy H2=>tb { D with nx:=Pv (i+1),ct:=Pv (i+1),bk:=D.nx } gy H2) (hd:∀ σ H,Pv xs.length σ H→D.nx σ H) :
  ∃ W:Nat→Nat→St→Hp→Prop,(∃ m,W 0 m σ H)∧∀ i m σ H,W i m σ H →
   ((Es K a).stop i H∧D.nx σ H)∨((Es K a).go i H∧∃ N:St→Hp→Prop,(∀ di H',N di H'→∃ m',m' < m∧W (i+1) m' di H')∧∀ x H',(Es K a).Fq i H x H'→g x σ H' fun gy H2=>tb { D with nx:=N,ct:=N,bk:=D.nx } gy H2):=by
 refine ⟨fun i m σ H=>m=xs.length - i∧i≤xs.length∧Pv i σ H,⟨xs.length,by simp,Nat.zero_le _,h0⟩,?_⟩;rintro i m σ H ⟨rfl,hi,p⟩;have q:=hl i σ H hi p;by_cases iD:i < xs.length
 ·refine .inr ⟨⟨xs,xs[i],q,by simp [iD]⟩,Pv (i+1),fun di H' p'=>⟨xs.length - (i+1),by omega,rfl,iD,p'⟩,fun x H' y=>?_⟩;obtain ⟨e,y⟩:=y;subst e;exact hs i x σ _ (y xs q) p
 ·have e:i=xs.length:=by omega
  subst e;exact .inl ⟨⟨xs,q,Nat.le_refl _⟩,hd σ H p⟩
theorem Fu {lo:Int} {n:Nat} {g:TG} {tb:TS} {D:Ends} {σ:St} {H:Hp} (Pv:Nat→St→Hp→Prop) (h0:Pv 0 σ H)
  (hs:∀ i σ H,i < n→Pv i σ H→g (.int (lo+i)) σ H fun gy H2=>tb { D with nx:=Pv (i+1),ct:=Pv (i+1),bk:=D.nx } gy H2) (hd:∀ σ H,Pv n σ H→D.nx σ H) :
  ∃ W:Nat→Nat→St→Hp→Prop,(∃ m,W 0 m σ H)∧∀ i m σ H,W i m σ H →
   ((GN lo n).stop i H∧D.nx σ H)∨((GN lo n).go i H∧∃ N:St→Hp→Prop,(∀ di H',N di H'→∃ m',m' < m∧W (i+1) m' di H')∧∀ x H',(GN lo n).Fq i H x H'→g x σ H' fun gy H2=>tb { D with nx:=N,ct:=N,bk:=D.nx } gy H2):=by
 refine ⟨fun i m σ H=>m=n - i∧i≤n∧Pv i σ H,⟨n,by simp,Nat.zero_le _,h0⟩,?_⟩;rintro i m σ H ⟨rfl,hi,p⟩;by_cases iD:i < n
 ·refine .inr ⟨iD,Pv (i+1),fun di H' p'=>⟨n - (i+1),by omega,rfl,iD,p'⟩,fun x H' y=>?_⟩;obtain ⟨e,y⟩:=y;subst e y;exact hs i σ _ iD p
 ·have e:i=n:=by omega
  subst e;exact .inl ⟨Nat.le_refl _,hd σ H p⟩
theorem Ht {c:TT} {tb:TS} {D:Ends} {σ:St} {H:Hp} (Pv:St→Hp→Prop) (μ:St→Hp→Nat) (h0:Pv σ H)
  (hs:∀ σ H,Pv σ H→c σ H fun b H1=>if b=true then tb { D with nx:=fun di H'=>Pv di H'∧μ di H' < μ σ H,ct:=fun di H'=>Pv di H'∧μ di H' < μ σ H,bk:=D.nx } σ H1 else D.nx σ H1)
  (mono:∀ σ H Q Q',(∀ b H1,Q b H1→Q' b H1)→c σ H Q→c σ H Q'):Hn c tb D σ H:=by
 refine ⟨fun m σ H=>m=μ σ H∧Pv σ H,⟨_,rfl,h0⟩,?_⟩;rintro m σ H ⟨rfl,p⟩;refine mono σ H _ _ (fun b H1 q=>?_) (hs σ H p);cases b with
 | true=>exact ⟨_,fun di H' ⟨p',l⟩=>⟨_,l,rfl,p'⟩,q⟩
 | false=>exact q
noncomputable abbrev R2:=V→V→Hp→VK→Prop
noncomputable def pC (X:Cx) (f:Value→Value→Sem Value) (r:R2):Prop :=
 ∀ (pins:List (Addr×Obj)) (s:Shared) (σ:St) (H:Hp) (x y:V) (v u:Value) (Q:VK),Inv X pins σ H s→RelV x v→RelV y u→r x y H Q →
  wpAny (model X.prog X.w) X.A (f v u) (EP X pins σ Q) X.xe s
noncomputable def Qx (X:Cx) (f:Value→Sem Value) (r:V→Hp→VK→Prop):Prop :=
 ∀ (pins:List (Addr×Obj)) (s:Shared) (σ:St) (H:Hp) (x:V) (v:Value) (Q:VK),Inv X pins σ H s→RelV x v→r x H Q →
  wpAny (model X.prog X.w) X.A (f v) (EP X pins σ Q) X.xe s
noncomputable def rq (X:Cx) (f:Value) (r:List V→Hp→VK→Prop):Prop :=
 ∀ (pins:List (Addr×Obj)) (s:Shared) (σ:St) (H:Hp) (xs:List V) (us:List Value) (Q:VK),Inv X pins σ H s→bB xs us→r xs H Q →
  wpAny (model X.prog X.w) X.A (call f us) (EP X pins σ Q) X.xe s
noncomputable def tOp (r:R2) (ta tb:TE):TE:=fun σ H Q=>ta σ H fun x H1=>tb σ H1 fun y H2=>r x y H2 Q
noncomputable def tUn (r:V→Hp→VK→Prop) (ta:TE):TE:=fun σ H Q=>ta σ H fun x H1=>r x H1 Q
noncomputable def rI (C:Int→Int→Prop) (g:Int→Int→V):R2:=fun x y H Q=>∃ i j,x=.int i∧y=.int j∧C i j∧Q (g i j) H
noncomputable def rI0 (g:Int→Int→V):R2:=fun x y H Q=>∃ i j,x=.int i∧y=.int j∧Q (g i j) H
noncomputable def rU (g:Int→V):V→Hp→VK→Prop:=fun x H Q=>∃ i,x=.int i∧Q (g i) H
section
variable {X:Cx} {a b c:Expr} {ta tb tc:TE} {pos:Pos}
theorem LZ (ha:PE X a ta) (hb:PE X b tb) {pins:List (Addr×Obj)} {s:Shared} {σ:St} {H:Hp} {R:V→V→Hp→Prop} (I:Inv X pins σ H s)
  (h:ta σ H fun x H1=>tb σ H1 fun y H2=>R x y H2) {Q:Value→Shared→Prop} {f:Value→Value→Sem Value}
  (hf:∀ v u s2 x y H2,Inv X pins σ H2 s2→RelV x v→RelV y u→R x y H2→wpAny (model X.prog X.w) X.A (f v u) Q X.xe s2) :
  wpAny (model X.prog X.w) X.A (eval a X.env) (fun v cF=>wpAny (model X.prog X.w) X.A (eval b X.env) (fun u nr=>wpAny (model X.prog X.w) X.A (f v u) Q X.xe nr) X.xe cF) X.xe s:=by
 refine dP (ha pins s σ H _ I h) fun v s1 ⟨x,H1,I1,r1,q1⟩=>?_;refine dP (hb pins s1 σ H1 _ I1 q1) fun u s2 ⟨y,H2,I2,r2,q2⟩=>?_;exact hf v u s2 x y H2 I2 r1 r2 q2
theorem aT {op:Operator} {r:R2} (ho:pC X (binaryOp op) r) (ha:PE X a ta) (hb:PE X b tb):PE X (.BinOp a op b pos) (tOp r ta tb):=by
 intro pins s σ H Q I h;exact wpAny_BinOp (LZ ha hb I h fun v u s2 x y H2 I2 rx ry q=>ho pins s2 σ H2 x y v u Q I2 rx ry q)
theorem pD {op:UnaryOp} {r:V→Hp→VK→Prop} (ho:Qx X (unaryOp op) r) (ha:PE X a ta):PE X (.UnaryOp op a pos) (tUn r ta):=by
 intro pins s σ H Q I h;exact UnaryOp_ (dP (ha pins s σ H _ I h) fun v s1 ⟨x,H1,I1,r1,q1⟩=>ho pins s1 σ H1 x v Q I1 r1 q1)
theorem NU {f:Value→Value→Sem Value} {C:Int→Int→Prop} {g:Int→Int→Int}
  (rule:∀ (i j:Int) (t u:Tok) (s:Shared) (Q:Value→Shared→Prop) (E:Value→Shared→Prop),C i j→Q (.int (g i j) s.toks) { s with toks:=s.toks+1 }→wpAny (model X.prog X.w) X.A (f (.int i t) (.int j u)) Q E s) :
  pC X f (rI C fun i j=>.int (g i j)):=by
 intro pins s σ H x y v u Q I rx ry h;obtain ⟨i,j,rfl,rfl,hc,q⟩:=h;obtain ⟨t,rfl⟩:=rx;obtain ⟨t',rfl⟩:=ry;exact rule i j t t' s _ _ hc ⟨.int (g i j),H,I.tok _,⟨_,rfl⟩,q⟩
theorem JY {f:Value→Value→Sem Value} {g:Int→Int→Int}
  (rule:∀ (i j:Int) (t u:Tok) (s:Shared) (Q:Value→Shared→Prop) (E:Value→Shared→Prop),Q (.int (g i j) s.toks) { s with toks:=s.toks+1 }→wpAny (model X.prog X.w) X.A (f (.int i t) (.int j u)) Q E s) :
  pC X f (rI0 fun i j=>.int (g i j)):=by
 intro pins s σ H x y v u Q I rx ry h;obtain ⟨i,j,rfl,rfl,q⟩:=h;obtain ⟨t,rfl⟩:=rx;obtain ⟨t',rfl⟩:=ry;exact rule i j t t' s _ _ ⟨.int (g i j),H,I.tok _,⟨_,rfl⟩,q⟩
theorem JZ {f:Value→Value→Sem Value} {g:Int→Int→Bool}
  (rule:∀ (i j:Int) (t u:Tok) (s:Shared) (Q:Value→Shared→Prop) (E:Value→Shared→Prop),Q (.bool (g i j)) s→wpAny (model X.prog X.w) X.A (f (.int i t) (.int j u)) Q E s) :
  pC X f (rI0 fun i j=>.bl (g i j)):=by
 intro pins s σ H x y v u Q I rx ry h;obtain ⟨i,j,rfl,rfl,q⟩:=h;obtain ⟨t,rfl⟩:=rx;obtain ⟨t',rfl⟩:=ry;exact rule i j t t' s _ _ ⟨.bl (g i j),H,I,rfl,q⟩
noncomputable def z5 (i j:Int):Prop:=(-(2 ^ 64) < i∧i < 2 ^ 64)∨(-(2 ^ 64) < j∧j < 2 ^ 64)
theorem z5.ok {i j:Int} (h:z5 i j):IntMulOk i j:=by
 rcases h with ⟨h1,h2⟩ | ⟨h1,h2⟩
 ·exact .of_left (intBits_le_64 h1 h2)
 ·exact .of_right (intBits_le_64 h1 h2)
theorem C2 (k:Nat):(0:Int)≤2 ^ k:=by
 rw [two_pow_cast];exact Int.natCast_nonneg _
theorem eh:pC X (binaryOp .Add) (rI0 fun i j=>.int (i+j)):=JY fun _ _ _ _ _ _ _ q=>add_int q
theorem cP:pC X (binaryOp .Sub) (rI0 fun i j=>.int (i - j)):=JY fun _ _ _ _ _ _ _ q=>sub_int q
theorem ui:pC X (binaryOp .Mult) (rI z5 fun i j=>.int (i*j)):=NU fun _ _ _ _ _ _ _ hc q=>mul_int q hc.ok
theorem hY:pC X (binaryOp .Mod) (rI (fun _ j=>0 < j) fun i j=>.int (i % j)):=NU fun i j _ _ _ _ _ hc q=>by
 have h1:(0:Int) < j:=hc;exact mod_int' (by omega) (by rw [Int.fmod_eq_emod_of_nonneg i (by omega)];exact q)
theorem z6:pC X (binaryOp .RShift) (rI (fun _ j=>0≤j) fun i j=>.int (i / 2 ^ j.toNat)):=NU fun i j _ _ _ _ _ hc q =>
 rshift_int hc (by rw [Int.fdiv_eq_ediv_of_nonneg i (C2 _)];exact q)
theorem L0:pC X (binaryOp .BitAnd) (rI0 fun i j=>.int (Builtin.bitAnd i j)):=JY fun _ _ _ _ _ _ _ q=>and_int q
theorem z7:pC X (binaryOp .BitXor) (rI0 fun i j=>.int (Builtin.bitXor i j)):=JY fun _ _ _ _ _ _ _ q=>xor_int q
theorem Uy {f:Value→Sem Value} {g:Int→Int}
  (rule:∀ (i:Int) (t:Tok) (s:Shared) (Q:Value→Shared→Prop) (E:Value→Shared→Prop),Q (.int (g i) s.toks) { s with toks:=s.toks+1 }→wpAny (model X.prog X.w) X.A (f (.int i t)) Q E s) :
  Qx X f (rU fun i=>.int (g i)):=by
 intro pins s σ H x v Q I rx h;obtain ⟨i,rfl,q⟩:=h;obtain ⟨t,rfl⟩:=rx;exact rule i t s _ _ ⟨.int (g i),H,I.tok _,⟨_,rfl⟩,q⟩
theorem kS:Qx X (unaryOp .USub) (rU fun i=>.int (-i)):=Uy fun _ _ _ _ _ q=>neg_int q
end
noncomputable def Fv:V→V→Bool
 | .dR,.dR=>true | .dR,.int _=>true | .int _,.dR=>true | .dR,.bl _=>true | .bl _,.dR=>true | .dR,.str _=>true | .str _,.dR=>true
 | .int _,.int _=>true | .bl _,.bl _=>true | .str _,.str _=>true | .GJ _,.GJ _=>true
 | .int _,.str _=>true | .str _,.int _=>true | .bl _,.str _=>true | .str _,.bl _=>true
 | _,_=>false
noncomputable def rEq:R2:=fun x y H Q=>Fv x y=true∧Q (.bl (decide (x=y))) H
noncomputable def rNe:R2:=fun x y H Q=>Fv x y=true∧Q (.bl (!decide (x=y))) H
theorem dec_int {i j:Int}:decide (V.int i=V.int j)=(i == j):=by
 rw [Bool.eq_iff_iff];simp
theorem Hu {i j:Bool}:decide (V.bl i=V.bl j)=(i == j):=by
 rw [Bool.eq_iff_iff];simp
theorem Et {i j:Str}:decide (V.str i=V.str j)=(i == j):=by
 rw [Bool.eq_iff_iff];simp
theorem Eu {i j:Array UInt8}:decide (V.GJ i=V.GJ j)=(i.toList == j.toList):=by
 rw [Bool.eq_iff_iff];cases i;cases j;simp
section
variable {X:Cx} {a b c:Expr} {ta tb tc:TE} {pos:Pos}
theorem cp {pins:List (Addr×Obj)} {σ:St} {H:Hp} {s:Shared} {Q:VK} {k k':Bool} (I:Inv X pins σ H s) (q:Q (.bl k) H) (e:k=k'):EP X pins σ Q (.bool k') s:=by
 subst e;exact ⟨.bl k,H,I,rfl,q⟩
theorem bD:pC X (compareOp .Eq) rEq:=by
 intro pins s σ H x y v u Q I rx ry h;obtain ⟨hs,q⟩:=h;cases x with
 | dR =>
  cases rx;cases y with
  | dR=>cases ry;exact PySem.EqNone.eq_none_none (cp I q (by simp))
  | bl j=>cases ry;exact PySem.EqNone.eq_none_bool (cp I q (by simp))
  | int j=>obtain ⟨t',rfl⟩:=ry;exact PySem.EqNone.eq_none_int (cp I q (by simp))
  | str j=>obtain ⟨t',rfl⟩:=ry;exact PySem.EqNone.eq_none_str (cp I q (by simp))
  | _=>exact absurd (show false=true from hs) Bool.false_ne_true
 | bl i =>
  cases rx;cases y with
  | dR=>cases ry;exact PySem.EqNone.eq_bool_none (cp I q (by simp))
  | bl j=>cases ry;exact eq_bool (cp I q Hu)
  | str j=>obtain ⟨t',rfl⟩:=ry;exact PySem.EqMixed.eq_bool_str (cp I q (by simp))
  | _=>exact absurd (show false=true from hs) Bool.false_ne_true
 | int i =>
  obtain ⟨t,rfl⟩:=rx;cases y with
  | dR=>cases ry;exact PySem.EqNone.eq_int_none (cp I q (by simp))
  | int j=>obtain ⟨t',rfl⟩:=ry;exact eq_int (cp I q dec_int)
  | str j=>obtain ⟨t',rfl⟩:=ry;exact PySem.EqMixed.eq_int_str (cp I q (by simp))
  | _=>exact absurd (show false=true from hs) Bool.false_ne_true
 | str i =>
  obtain ⟨t,rfl⟩:=rx;cases y with
  | dR=>cases ry;exact PySem.EqNone.eq_str_none (cp I q (by simp))
  | bl j=>cases ry;exact PySem.EqMixed.eq_str_bool (cp I q (by simp))
  | int j=>obtain ⟨t',rfl⟩:=ry;exact PySem.EqMixed.eq_str_int (cp I q (by simp))
  | str j=>obtain ⟨t',rfl⟩:=ry;exact eq_str (cp I q Et)
  | _=>exact absurd (show false=true from hs) Bool.false_ne_true
 | GJ i =>
  obtain ⟨t,rfl⟩:=rx;cases y with
  | GJ j=>obtain ⟨t',rfl⟩:=ry;exact PySem.W.eq_bytes (cp I q Eu)
  | _=>exact absurd (show false=true from hs) Bool.false_ne_true
 | _=>cases y <;> exact absurd (show false=true from hs) Bool.false_ne_true
theorem lY:pC X (compareOp .NotEq) rNe:=by
 intro pins s σ H x y v u Q I rx ry h;obtain ⟨hs,q⟩:=h;cases x with
 | dR =>
  cases rx;cases y with
  | dR=>cases ry;exact PySem.EqNone.ne_none_none (cp I q (by simp))
  | bl j=>cases ry;exact PySem.EqNone.ne_none_bool (cp I q (by simp))
  | int j=>obtain ⟨t',rfl⟩:=ry;exact PySem.EqNone.ne_none_int (cp I q (by simp))
  | str j=>obtain ⟨t',rfl⟩:=ry;exact PySem.EqNone.ne_none_str (cp I q (by simp))
  | _=>exact absurd (show false=true from hs) Bool.false_ne_true
 | bl i =>
  cases rx;cases y with
  | dR=>cases ry;exact PySem.EqNone.ne_bool_none (cp I q (by simp))
  | bl j=>cases ry;exact ne_bool (cp I q (congrArg not Hu))
  | str j=>obtain ⟨t',rfl⟩:=ry;exact PySem.EqMixed.ne_bool_str (cp I q (by simp))
  | _=>exact absurd (show false=true from hs) Bool.false_ne_true
 | int i =>
  obtain ⟨t,rfl⟩:=rx;cases y with
  | dR=>cases ry;exact PySem.EqNone.ne_int_none (cp I q (by simp))
  | int j=>obtain ⟨t',rfl⟩:=ry;exact ne_int (cp I q (congrArg not dec_int))
  | str j=>obtain ⟨t',rfl⟩:=ry;exact PySem.EqMixed.ne_int_str (cp I q (by simp))
  | _=>exact absurd (show false=true from hs) Bool.false_ne_true
 | str i =>
  obtain ⟨t,rfl⟩:=rx;cases y with
  | dR=>cases ry;exact PySem.EqNone.ne_str_none (cp I q (by simp))
  | bl j=>cases ry;exact PySem.EqMixed.ne_str_bool (cp I q (by simp))
  | int j=>obtain ⟨t',rfl⟩:=ry;exact PySem.EqMixed.ne_str_int (cp I q (by simp))
  | str j=>obtain ⟨t',rfl⟩:=ry;exact ne_str (cp I q (congrArg not Et))
  | _=>exact absurd (show false=true from hs) Bool.false_ne_true
 | GJ i =>
  obtain ⟨t,rfl⟩:=rx;cases y with
  | GJ j=>obtain ⟨t',rfl⟩:=ry;exact PySem.W.ne_bytes (cp I q (congrArg not Eu))
  | _=>exact absurd (show false=true from hs) Bool.false_ne_true
 | _=>cases y <;> exact absurd (show false=true from hs) Bool.false_ne_true
theorem vj:pC X (compareOp .Lt) (rI0 fun i j=>.bl (decide (i < j))):=JZ fun _ _ _ _ _ _ _ q=>lt_int q
theorem gK:pC X (compareOp .LtE) (rI0 fun i j=>.bl (decide (i≤j))):=JZ fun _ _ _ _ _ _ _ q=>le_int q
theorem Bu:pC X (compareOp .Gt) (rI0 fun i j=>.bl (decide (j < i))):=JZ fun _ _ _ _ _ _ _ q=>gt_int q
theorem Ew:pC X (compareOp .GtE) (rI0 fun i j=>.bl (decide (j≤i))):=JZ fun _ _ _ _ _ _ _ q=>ge_int q
theorem Hv:pC X (compareOp .Is) (fun x y H Q=>y=.dR∧Q (.bl (decide (x=.dR))) H):=by
 intro pins s σ H x y v u Q I rx ry h;obtain ⟨rfl,q⟩:=h;cases ry;refine is_none_gen (cp I q ?_);cases x <;> first
  | (cases rx;rfl)
  | (obtain ⟨t,rfl⟩:=rx;rfl)
theorem Ex:pC X (compareOp .IsNot) (fun x y H Q=>y=.dR∧Q (.bl (!decide (x=.dR))) H):=by
 intro pins s σ H x y v u Q I rx ry h;obtain ⟨rfl,q⟩:=h;cases ry;refine isnot_none_gen (cp I q ?_);cases x <;> first
  | (cases rx;rfl)
  | (obtain ⟨t,rfl⟩:=rx;rfl)
theorem aJ (b:Expr) {op:CmpOp} (h:op≠.In:=by decide) (h2:op≠.NotIn:=by decide):behindInMarks op b=false:=by
 have e1:(op == CmpOp.In)=false:=by cases op <;> first | rfl | exact absurd rfl h
 have e2:(op == CmpOp.NotIn)=false:=by cases op <;> first | rfl | exact absurd rfl h2
 cases b <;> simp [behindInMarks,e1,e2]
theorem dM {op:CmpOp} {r:R2} (ho:pC X (compareOp op) r) (ha:PE X a ta) (hb:PE X b tb) (hm:behindInMarks op b=false):PE X (.Compare a [op] [b] pos) (tOp r ta tb):=by
 intro pins s σ H Q I h;exact wpAny_Compare1 (LZ ha hb I h fun v u s2 x y H2 I2 rx ry q=>ho pins s2 σ H2 x y v u Q I2 rx ry q) hm
noncomputable def tTest (t:TE):TT:=fun σ H Q=>t σ H fun x H'=>∃ k,x=.bl k∧Q k H'
theorem aG {op:CmpOp} {r:R2} (ho:pC X (compareOp op) r) (ha:PE X a ta) (hb:PE X b tb) (hm:behindInMarks op b=false):PT X (.Compare a [op] [b] pos) (tTest (tOp r ta tb)):=by
 intro pins s σ H Q I h;refine wpAny_isTrue_Compare1 (dP (ha pins s σ H _ I h) fun v s1 ⟨x,H1,I1,r1,q1⟩=>dP (hb pins s1 σ H1 _ I1 q1) fun u s2 ⟨y,H2,I2,r2,q2⟩ =>
  dP (ho pins s2 σ H2 x y v u _ I2 r1 r2 q2) fun c s3 ⟨z,H3,I3,r3,k,e,q3⟩=>?_) hm
 subst e;cases r3;exact wpAny_truthy_bool ⟨H3,I3,q3⟩
noncomputable def tChain (r r':R2) (ta tb tc:TE):TE:=fun σ H Q=>ta σ H fun x H1=>tb σ H1 fun y H2=>r x y H2 fun z H3=>∃ k,z=.bl k ∧
 (if k=true then tc σ H3 fun w' H4=>r' y w' H4 Q else Q (.bl false) H3)
theorem kT {op L1:CmpOp} {r r':R2} (ho:pC X (compareOp op) r) (El:pC X (compareOp L1) r') (ha:PE X a ta) (hb:PE X b tb) (hc:PE X c tc)
  (hm:lastMarks [op,L1] [b,c]=false:=by with_unfolding_all rfl):PE X (.Compare a [op,L1] [b,c] pos) (tChain r r' ta tb tc):=by
 intro pins s σ H Q I h;refine Compare_chain (dP (ha pins s σ H _ I h) fun v s1 ⟨x,H1,I1,r1,q1⟩=>chain_link (dP (hb pins s1 σ H1 _ I1 q1) fun u s2 ⟨y,H2,I2,r2,q2⟩ =>
  dP (ho pins s2 σ H2 x y v u _ I2 r1 r2 q2) fun d s3 ⟨z,H3,I3,r3,k,e,q3⟩=>?_)) hm
 subst e;cases r3;refine wpAny_truthy_bool ?_;cases k with
 | false=>exact ite_ff ⟨.bl false,H3,I3,rfl,q3⟩
 | true=>exact ite_tt (chain_last (dP (hc pins s3 σ H3 _ I3 q3) fun w' s4 ⟨z',H4,I4,r4,q4⟩=>El pins s4 σ H4 y z' u w' Q I4 r2 r4 q4))
theorem Bv {op L1:CmpOp} {r r':R2} (ho:pC X (compareOp op) r) (El:pC X (compareOp L1) r') (ha:PE X a ta) (hb:PE X b tb) (hc:PE X c tc)
  (hm:lastMarks [op,L1] [b,c]=false:=by with_unfolding_all rfl):PT X (.Compare a [op,L1] [b,c] pos) (tTest (tChain r r' ta tb tc)):=by
 intro pins s σ H Q I h;refine isTrue_chain (dP (ha pins s σ H _ I h) fun v s1 ⟨x,H1,I1,r1,q1⟩=>test_link (dP (hb pins s1 σ H1 _ I1 q1) fun u s2 ⟨y,H2,I2,r2,q2⟩ =>
  dP (ho pins s2 σ H2 x y v u _ I2 r1 r2 q2) fun d s3 ⟨z,H3,I3,r3,k,e,q3⟩=>?_)) hm
 subst e;cases r3;refine wpAny_truthy_bool ?_;cases k with
 | false =>
  obtain ⟨k',e',q'⟩:=q3;cases e';exact ite_ff ⟨H3,I3,q'⟩
 | true =>
  refine ite_tt (test_last (dP (hc pins s3 σ H3 _ I3 q3) fun w' s4 ⟨z',H4,I4,r4,q4⟩=>dP (El pins s4 σ H4 y z' u w' _ I4 r2 r4 q4) fun d' s5 ⟨z2,H5,I5,r5,k2,e2,q5⟩=>?_));subst e2;cases r5;exact wpAny_truthy_bool ⟨H5,I5,q5⟩
theorem z8:(sizeLine:Nat) < 2 ^ 63:=by rw [sizeLine_eq];decide
theorem vals1 {x:V} {us:List Value} (r:bB [x] us):∃ u,us=[u]∧RelV x u:=by
 cases r with
 | cons r1 r2=>cases r2;exact ⟨_,rfl,r1⟩
theorem vals2 {x y:V} {us:List Value} (r:bB [x,y] us):∃ u w',us=[u,w']∧RelV x u∧RelV y w':=by
 cases r with
 | cons r1 r2 =>
  cases r2 with
  | cons r3 r4=>cases r4;exact ⟨_,_,rfl,r1,r3⟩
theorem xa:rq X (.builtin "abs") (fun xs H Q=>∃ i,xs=[.int i]∧Q (.int (if i < 0 then -i else i)) H):=by
 intro pins s σ H xs us Q I r h;obtain ⟨i,rfl,q⟩:=h;obtain ⟨u,rfl,t,rfl⟩:=vals1 r;exact call_abs_int fun u tk=>⟨.int (if i < 0 then -i else i),H,I.tok _,⟨_,rfl⟩,q⟩
theorem qG (hc:X.calm=true):rq X (.builtin "max") (fun xs H Q=>∃ i j,xs=[.int i,.int j]∧Q (.int (if j > i then j else i)) H):=by
 intro pins s σ H xs us Q I r h;obtain ⟨i,j,rfl,q⟩:=h;obtain ⟨u,w',rfl,⟨t,rfl⟩,⟨t',rfl⟩⟩:=vals2 r;refine max_two_ints (I.ok.hd hc) fun h' tk k=>⟨_,H,I.kept k,?_,q⟩;by_cases hj:j > i
 ·rw [if_pos hj,if_pos hj];exact ⟨_,rfl⟩
 ·rw [if_neg hj,if_neg hj];exact ⟨_,rfl⟩
theorem uj (hc:X.calm=true):rq X (.builtin "min") (fun xs H Q=>∃ i j,xs=[.int i,.int j]∧Q (.int (if j < i then j else i)) H):=by
 intro pins s σ H xs us Q I r h;obtain ⟨i,j,rfl,q⟩:=h;obtain ⟨u,w',rfl,⟨t,rfl⟩,⟨t',rfl⟩⟩:=vals2 r;refine min_two_ints (I.ok.hd hc) fun h' tk k=>⟨_,H,I.kept k,?_,q⟩;by_cases hj:j < i
 ·rw [if_pos hj,if_pos hj];exact ⟨_,rfl⟩
 ·rw [if_neg hj,if_neg hj];exact ⟨_,rfl⟩
end
structure Fw (h:Heap) (x dx C:Addr) (mA:Str→Option Value):Prop where
 obj:h.get? x=some (PySem.W.instObj C dx)
 ns:h.Ns1 dx mA
 ne:dx≠x
theorem Fx {h:Heap} {dx:Addr} {mA:Str→Option Value} (n:h.Ns1 dx mA):∃ od,h.get? dx=some od∧∀ name,PySem.W.lookIn name od=some (mA name):=by
 obtain ⟨o,es,ep,ho,hd,hk,_,hm⟩:=n;refine ⟨o,ho,fun name=>?_⟩;have e:=hm name;unfold nsFind findBy at e;rw [← Array.find?_toList] at e;unfold PySem.W.lookIn;rw [hd];dsimp only;split
 ·rename_i y q;rw [q] at e;exact congrArg some e
 ·rename_i q;rw [q] at e;have a:es.toList.any (·.refKey)=false:=by
   rw [List.any_eq_false];intro y hy;obtain ⟨z,t,Hw⟩:=hk y (Array.mem_toList_iff.mp hy);simp [DictEntry.refKey,Hw]
  have a':¬ es.toList.any (·.refKey)=true:=by rw [a];exact Bool.false_ne_true
  rw [if_neg a'];exact congrArg some e
theorem Fw.look {h:Heap} {x dx C:Addr} {mA:Str→Option Value} (I:Fw h x dx C mA):∃ od,PySem.W.InstAt h x (PySem.W.instObj C dx) C (some od)∧∀ name,PySem.W.lookIn name od=some (mA name) :=
 let ⟨od,ho,hl⟩:=Fx I.ns
 ⟨od,⟨I.obj,rfl,rfl,ho⟩,hl⟩
section
variable {prog:Program} {w:World} {A:Around} {E:Value→Shared→Prop} {s:Shared} {K:PySem.W.Frag} {x dx C f:Addr} {mA:Str→Option Value} {name:Str} {v:Value}
theorem get_map {expr:Bool} {Q:Value→Shared→Prop} (X:K.In s.heap) (I:Fw s.heap x dx C mA) (hg:PySem.W.plainGet K C name=true) (hh:PySem.W.hasDictIn K C=true)
  (ha:PySem.W.findIn K (.ref C) name=some none) (hv:mA name=some v) (Pe:PySem.W.handedIn v=true) (h:Q v { s with toks:=s.toks+1 }) :
  wpAny (model prog w) A (getAttr (.ref x) name expr) Q E s:=by
 obtain ⟨od,J,hl⟩:=I.look;exact PySem.W.get_value X J (PySem.W.plainGet_of hg).1 (PySem.W.findObj_own hh ha rfl (by rw [hl,hv])) Pe h
theorem J0 {ns:List Str} {Q:Unit→Shared→Prop} (X:K.In s.heap) (I:Fw s.heap x dx C mA)
  (hs:PySem.W.findIn K (.ref C) "__setattr__"=some (some (.builtin "object.__setattr__"))) (hp:PySem.W.plainOver K C=true) (ht:PySem.W.takerIn K C name=some none) (hh:PySem.W.hasDictIn K C=true)
  (hw:PySem.Within mA ns) (hsz:ns.length≤sizeLine)
  (h:∀ h',Fw h' x dx C (fun y=>if y=name then some v else mA y)→Heap.SameBut dx s.heap h'→Q () { s with heap:=h',toks:=s.toks+2 }) :
  wpAny (model prog w) A (setAttr (.ref x) name v) Q E s:=by
 obtain ⟨od,J,hl⟩:=I.look;refine PySem.W.set_plain X J hs (PySem.W.osa_open (s:={ s with toks:=s.toks+1 }) (r:=none) X J hp ht fun b=>?_);obtain ⟨cd,hc,Hf⟩:=PySem.W.any_some hh;have hx:s.heap.get? x=some ⟨.ref C,some dx,.plain,#[]⟩:=I.obj;refine wpAny_bind (wpAny_pure (wpAny_bind (wpAny_bind (wpAny_loadPart hx (wpAny_bind (PySem.W.Looks.here (s:={ s with toks:=s.toks+1 }) (PySem.W.looks_clsIn X hc) ?_))))));rw [Hf];refine wpAny_pure (a:=some dx) (wpAny_bind (wpAny_pure (wpAny_bind ?_)));refine wpAny_nsSet1 (s:={ s with toks:=s.toks+1 }) I.ns fun h' Sn So=>?_;obtain ⟨oD,XN,XO,Uz,UA,UB⟩:=Sn.count (PySem.Within.cons name v hw);refine wpAny_bind (wpAny_lookBehind Uz (by rw [UA];exact pastItsLine_dict (Nat.le_trans UB (by rw [List.length_cons];omega))) ?_);exact wpAny_pure (h _ ⟨(So.2 _ (Ne.symm I.ne)).trans I.obj,Sn,I.ne⟩ So)
theorem Hx {R:Result→Shared→Prop} {vs:List Value} {kw:List (Str×Value)} (X:K.In s.heap) (hm:PySem.W.makesIn K C=true)
  (hi:PySem.W.findIn K (.ref C) "__init__"=some (some (.ref f))) (hf:PySem.W.typeIn K (.ref f)=some (.type "function"))
  (h:codeAny (model prog w) (A.under (.builtin "type.__call__" ⟨.ref C::vs,kw⟩)) (.call (.ref f) ⟨.ref (s.heap.objs.size+1)::vs,kw⟩) (PySem.W.InitBack (s.heap.objs.size+1) R)
   { s with heap:=(s.heap.push PySem.W.emptyDict).push (PySem.W.instObj C s.heap.objs.size) }) :
  codeAny (model prog w) A (.call (.ref C) ⟨vs,kw⟩) R s:=by
 obtain ⟨hh,g,d,t,os⟩:=s;exact PySem.W.make_core (PySem.W.makes_of X hm) (PySem.W.looks_findIn X hi) (fun self=>PySem.W.bind_fn X self hf) (.inl rfl) h
end
noncomputable def j6 (f:Str) (v:V):List (Str×V)→List (Str×V)
 | []=>[(f,v)]
 | (g,x)::r=>if g=f then (g,v)::r else (g,x)::j6 f v r
theorem vo (f g:Str) (v:V):∀ fs:List (Str×V),(j6 f v fs).lookup g=if g=f then some v else fs.lookup g
 | []=>by
  show List.lookup g [(f,v)]=_;by_cases h:g=f
  ·have hb:(g == f)=true:=beq_iff_eq.mpr h;simp only [List.lookup,hb,if_pos h]
  ·have hb:(g == f)=false:=beq_eq_false_iff_ne.mpr h;simp only [List.lookup,hb,if_neg h]
 | (k,x)::r=>by
  have ih:=vo f g v r;rw [show j6 f v ((k,x)::r)=(if k=f then (k,v)::r else (k,x)::j6 f v r) from rfl];by_cases hk:k=f
  ·rw [if_pos hk];by_cases h:g=k
   ·have hb:(g == k)=true:=beq_iff_eq.mpr h;simp only [List.lookup,hb,if_pos (h.trans hk)]
   ·have hb:(g == k)=false:=beq_eq_false_iff_ne.mpr h;simp only [List.lookup,hb,if_neg (fun e:g=f=>h (e.trans hk.symm))]
  ·rw [if_neg hk];by_cases h:g=k
   ·have hb:(g == k)=true:=beq_iff_eq.mpr h;simp only [List.lookup,hb,if_neg (fun e:g=f=>hk (h.symm.trans e))]
   ·have hb:(g == k)=false:=beq_eq_false_iff_ne.mpr h;simp only [List.lookup,hb];exact ih
theorem uk (f:Str) (v:V):∀ fs:List (Str×V),f∈(j6 f v fs).map (·.1)∧∀ g,g∈fs.map (·.1)→g∈(j6 f v fs).map (·.1)
 | []=>⟨by simp [j6],fun g h=>by simp at h⟩
 | (k,x)::r=>by
  obtain ⟨i1,i2⟩:=uk f v r;rw [show j6 f v ((k,x)::r)=(if k=f then (k,v)::r else (k,x)::j6 f v r) from rfl];by_cases hk:k=f
  ·rw [if_pos hk];subst hk;exact ⟨by simp,fun g h=>by simpa using h⟩
  ·rw [if_neg hk];refine ⟨?_,fun g h=>?_⟩
   ·rw [List.map_cons];exact List.mem_cons_of_mem _ i1
   ·rw [List.map_cons] at h ⊢;rcases List.mem_cons.mp h with e | e
    ·exact List.mem_cons.mpr (.inl e)
    ·exact List.mem_cons_of_mem _ (i2 g e)
theorem vp (f:Str) (v:V):∀ fs:List (Str×V),(j6 f v fs).length≤fs.length+1
 | []=>by simp [j6]
 | (k,x)::r=>by
  have ih:=vp f v r;rw [show j6 f v ((k,x)::r)=(if k=f then (k,v)::r else (k,x)::j6 f v r) from rfl];by_cases hk:k=f
  ·rw [if_pos hk,List.length_cons,List.length_cons];omega
  ·rw [if_neg hk,List.length_cons,List.length_cons];omega
theorem uh.some_of {v:V} {o:Option Value} (r:uh (some v) o):∃ u,o=some u∧RelV v u:=by
 cases o with
 | none=>exact (show False from r).elim
 | some u=>exact ⟨u,rfl,r⟩
theorem Fy {v:V} {u:Value} (r:RelV v u):PySem.W.handedIn u=true:=by
 cases v with
 | dR=>cases (show u=Value.none from r);rfl
 | bl b=>cases (show u=Value.bool b from r);rfl
 | int i=>obtain ⟨t,e⟩:=(show ∃ t,u=Value.int i t from r);cases e;rfl
 | str x=>obtain ⟨t,e⟩:=(show ∃ t,u=Value.str x t from r);cases e;rfl
 | GJ b=>obtain ⟨t,e⟩:=(show ∃ t,u=Value.bytes b t from r);cases e;rfl
 | O3 b=>obtain ⟨t,e⟩:=(show ∃ t,u=Value.float b t from r);cases e;rfl
 | ref a=>cases (show u=Value.ref a from r);rfl
 | ty n=>cases (show u=Value.type n from r);rfl
section
variable {P:Program} {w:World} {H H':Hp} {h h':Heap} {a C dx:Addr} {fs Sj:List (Str×V)}
theorem Ey (dz:rX P w H h) (e:H a=some (.ins C dx fs)):∃ mA,Fw h a dx C mA∧(∀ f,uh (fs.lookup f) (mA f))∧PySem.Within mA (fs.map (·.1))∧fs.length≤1000∧H dx=some (.own a):=by
 obtain ⟨d,z,ne,ob,mA,n,r,q⟩:=(show fQ P w H h a (.ins C dx fs) from dz a _ e);exact ⟨mA,⟨ob,n,ne⟩,r,q,z,d⟩
end
structure GP (K:PySem.W.Frag) (C:Addr):Prop where
 pg:PySem.W.plainGet K C Str.empty=true
 hd:PySem.W.hasDictIn K C=true
 po:PySem.W.plainOver K C=true
 sa:PySem.W.findIn K (.ref C) "__setattr__"=some (some (.builtin "object.__setattr__"))
theorem GP.get {K:PySem.W.Frag} {C:Addr} (c:GP K C) (f:Str):PySem.W.plainGet K C f=true:=c.pg
noncomputable def fL (K:PySem.W.Frag) (C:Addr) (f:Str):Prop:=PySem.W.findIn K (.ref C) f=some none
theorem fL.NV {K:PySem.W.Frag} {C:Addr} {f:Str} (n:fL K C f):PySem.W.takerIn K C f=some none:=by
 unfold PySem.W.takerIn;rw [show PySem.W.findIn K (.ref C) f=some none from n];rfl
section
variable {X:Cx} {pins:List (Addr×Obj)} {σ:St} {H:Hp} {s:Shared} {a C dx:Addr} {fs:List (Str×V)} {f:Str} {v:V} {A:Around} {E:Value→Shared→Prop}
theorem C3 {b:Bool} {Q:Value→Shared→Prop} (I:Inv X pins σ H s) (e:H a=some (.ins C dx fs)) (c:GP X.K C) (n:fL X.K C f) (l:fs.lookup f=some v)
  (h:∀ u s',Inv X pins σ H s'→RelV v u→Q u s'):wpAny (model X.prog X.w) A (getAttr (.ref a) f b) Q E s:=by
 obtain ⟨mA,O,r,_,_,_⟩:=Ey I.dz e;obtain ⟨u,hu,ru⟩:=uh.some_of (v:=v) (o:=mA f) (by rw [← l];exact r f);exact get_map I.CV O (c.get f) c.hd n hu (Fy ru) (h u _ (I.tok _) ru)
theorem C4 {y:V} {u:Value} {Q:Unit→Shared→Prop} (I:Inv X pins σ H s) (e:H a=some (.ins C dx fs)) (c:GP X.K C) (n:fL X.K C f) (hl:fs.length < 1000) (ry:RelV y u)
  (h:∀ s',Inv X pins σ (upd H a (.ins C dx (j6 f y fs))) s'→Q () s'):wpAny (model X.prog X.w) A (setAttr (.ref a) f u) Q E s:=by
 obtain ⟨mA,O,r,wi,_,ho⟩:=Ey I.dz e;have hz:(fs.map (·.1)).length≤sizeLine:=by rw [List.length_map,sizeLine_eq];omega
 refine J0 I.CV O c.sa c.po n.NV c.hd wi hz fun h' O' sb=>h _ ?_;have hd:∃ o,h'.get? dx=some o:=let ⟨o,_,_,e',_⟩:=O'.ns;⟨o,e'⟩;refine I.write (x:=a) (e:=dx) (by rw [e];exact True.intro) (.inr ho) (fun b q hb z=>(sb.2 b hb).trans z) hd ?_;refine ⟨by rw [aH O.ne];exact ho,?_,O.ne,O'.obj,_,O'.ns,fun g=>?_,fun g hg=>?_⟩
 ·have:=vp f y fs;omega
 ·show uh ((j6 f y fs).lookup g) (if g=f then some u else mA g);rw [vo];by_cases q:g=f
  ·rw [if_pos q,if_pos q];exact ry
  ·rw [if_neg q,if_neg q];exact r g
 ·by_cases q:g=f
  ·rw [q];exact (uk f y fs).1
  ·refine (uk f y fs).2 g (wi g fun z=>hg ?_);show (if g=f then some u else mA g)=none;rw [if_neg q];exact z
theorem Inv.made (I:Inv X pins σ H s):Inv X pins σ (upd (upd H s.heap.objs.size (.own (s.heap.objs.size+1))) (s.heap.objs.size+1) (.ins C s.heap.objs.size []))
  { s with heap:=(s.heap.push PySem.W.emptyDict).push (PySem.W.instObj C s.heap.objs.size) }:=by
 have e1:(s.heap.push PySem.W.emptyDict).get? s.heap.objs.size=some PySem.W.emptyDict:=Heap.get?_push_size s.heap rfl;have e2:((s.heap.push PySem.W.emptyDict).push (PySem.W.instObj C s.heap.objs.size)).get? (s.heap.objs.size+1)=some (PySem.W.instObj C s.heap.objs.size):=by
  have:=Heap.get?_push_size (s.heap.push PySem.W.emptyDict) (o:=PySem.W.instObj C s.heap.objs.size) rfl;rwa [Heap.size_push] at this
 have e3:(s.heap.push PySem.W.emptyDict).Ns s.heap.objs.size (fun _=>none):=⟨PySem.W.emptyDict,#[],_,e1,rfl,(fun e he=>absurd he (by simp)),fun _=>rfl⟩;have I1:=I.laid (a:=s.heap.objs.size) (o:=.own (s.heap.objs.size+1)) (h':=s.heap.push PySem.W.emptyDict) (t':=s.toks) (fun b u q=>Heap.get?_push_of_some _ q) (Nat.le_refl _) ⟨_,e1⟩;refine I1.laid (a:=s.heap.objs.size+1) (o:=.ins C s.heap.objs.size []) (t':=s.toks) (fun b u q=>Heap.get?_push_of_some _ q) (Nat.le_of_eq (Heap.size_push _ _)) ?_;have ne:s.heap.objs.size≠s.heap.objs.size+1:=Nat.ne_of_lt (Nat.lt_succ_self _);refine ⟨by rw [aH ne,au],Nat.zero_le _,ne,e2,fun _=>none,(Heap.Ns1.of_empty e3).at fun o q=>Heap.get?_push_of_some _ q,fun _=>True.intro,fun y hy=>absurd rfl hy⟩
theorem J1 {prog:Program} {w:World} {env:Env} {e:Expr} {f:Str} {pos:Pos} {s:Shared} {Q:Value→Shared→Prop} (hb:attributeBase e f env (eval e env)=eval e env)
  (h:wpAny (model prog w) A (eval e env) (fun o cF=>wpAny (model prog w) A (getAttr o f true) Q E cF) E s):wpAny (model prog w) A (eval (.Attribute e f pos) env) Q E s :=
 Attribute_any_ h (by rw [arm_eval_Attribute,hb])
end
noncomputable def tFld (K:PySem.W.Frag) (ta:TE) (f:Str):TE:=fun σ H Q=>ta σ H fun x H1=>∃ a C dx fs v,x=.ref a∧H1 a=some (.ins C dx fs)∧GP K C∧fL K C f∧fs.lookup f=some v∧Q v H1
noncomputable def J2 (K:PySem.W.Frag) (ta tv:TE) (f:Str):TS:=fun D σ H=>tv σ H fun y H1=>ta σ H1 fun x H2=>∃ a C dx fs,x=.ref a∧H2 a=some (.ins C dx fs)∧GP K C∧fL K C f∧fs.length < 1000 ∧
 D.nx σ (upd H2 a (.ins C dx (j6 f y fs)))
section
variable {X:Cx} {o e value:Expr} {f:Str} {pos pos' CZ:Pos} {ta tv:TE}
theorem aE (he:PE X e ta) (hb:attributeBase e f X.env (eval e X.env)=eval e X.env):PE X (.Attribute e f pos) (tFld X.K ta f):=by
 intro pins s σ H Q I h;refine J1 hb (dP (he pins s σ H _ I h) fun u s1 ⟨x,H1,I1,rx,a,C,dx,fs,v,ex,ea,c,n,l,q⟩=>?_);subst ex;obtain rfl:u=Value.ref a:=rx;exact C3 I1 ea c n l fun u' s2 I2 ru=>⟨v,H1,I2,ru,q⟩
theorem kU (ha:PE X o ta) (hv:PE X value tv) (hs:swapsWith value (some (.Attribute o f pos')) pos.line X.env=pure false):PS X (.Assign [.Attribute o f pos'] value pos) (J2 X.K ta tv f):=by
 intro pins s σ H D I h;refine plainObj_wpAny_Assign_Attribute (dP (hv pins s σ H _ I h) fun u s1 ⟨y,H1,I1,ry,q⟩=>dP (ha pins s1 σ H1 _ I1 q) fun ov s2 ⟨x,H2,I2,rx,a,C,dx,fs,ex,ea,c,n,l,q2⟩=>?_) hs;subst ex;obtain rfl:ov=Value.ref a:=rx;exact C4 I2 ea c n l ry fun s3 I3=>⟨σ,_,I3,q2⟩
end
section
variable {X:Cx} {pins:List (Addr×Obj)} {σ:St} {H:Hp} {s:Shared} {A:Around} {E:Value→Shared→Prop} {Q:Value→Shared→Prop} {c:Value} {b:Bool}
end
structure eu (k:Nat) (A:Around):Prop where
 hd:A.handled=none
 dp:A.depth+3*k+5 < recursionLimit
 un:A.units+16*k+200 < cLine
theorem eu.mono {j k:Nat} {A:Around} (r:eu k A) (h:j≤k):eu j A:=⟨r.hd,by have:=r.dp;omega,by have:=r.un;omega⟩
theorem eu.deeper {k:Nat} {A:Around} (r:eu (k+1) A) (env:Env):eu k (A.deeper env) :=
 ⟨r.hd,by have:=r.dp;show A.depth+1+3*k+5 < _;omega,by have:=r.un;show A.units+3+16*k+200 < _;omega⟩
theorem eu.in1 {k:Nat} {A:Around} (r:eu (k+1) A):eu k A.in1 :=
 ⟨r.hd,by have:=r.dp;show A.depth+3*k+5 < _;omega,by have:=r.un;show A.units+1+16*k+200 < _;omega⟩
theorem C5 {A:Around} {C:Addr} {us:List Value} {kw:List (Str×Value)}:(A.under (.builtin "type.__call__" ⟨.ref C::us,kw⟩)).depth=A.depth+1:=by
 first | rfl | simp [Around.under,Code.weight,Code.isCreation,Code.isGuard,Code.isCaller,Code.frames,Code.isFrame,guardIds]
theorem C6 {A:Around} {C:Addr} {us:List Value} {kw:List (Str×Value)}:(A.under (.builtin "type.__call__" ⟨.ref C::us,kw⟩)).units=A.units+1:=by
 first | rfl | simp [Around.under,Code.cUnits,Code.frames,Code.isFrame]
theorem eu.make {k:Nat} {A:Around} (r:eu (k+1) A) (C:Addr) (us:List Value) (kw:List (Str×Value)):eu k (A.under (.builtin "type.__call__" ⟨.ref C::us,kw⟩)) :=
 ⟨r.hd,by have:=r.dp;rw [C5];omega,by have:=r.un;rw [C6];omega⟩
theorem eu.depth {k:Nat} {A:Around} (r:eu k A):A.depth < recursionLimit:=by have:=r.dp;omega
theorem eu.units {k:Nat} {A:Around} (r:eu k A):A.units+64 < cLine:=by have:=r.un;omega
theorem eu.Hy {k:Nat} {A:Around} (r:eu k A):A.units < cLine:=by have:=r.un;omega
noncomputable def tNil:TA:=fun _ H Q=>Q [] H
noncomputable def tCons (ta:TE) (tr:TA):TA:=fun σ H Q=>ta σ H fun x H1=>tr σ H1 fun xs H2=>Q (x::xs) H2
section
variable {X:Cx} {e:Expr} {es:List Expr} {te:TE} {t:TA} {pos:Pos}
theorem ag:PA X [] tNil:=fun _ _ _ _ H Q I h=>Calls.spliced_nil ⟨[],H,I,.nil,h⟩
theorem aa (ha:PE X e te) (hr:PA X es t) (hs:starEach (e::es) X.env=(false,eval e X.env)::starEach es X.env:=by rfl):PA X (e::es) (tCons te t):=by
 intro pos pins s σ H Q I h;rw [hs];show wpAny _ _ (spliced ((false,eval e X.env)::backTo pos (starEach es X.env))) _ _ s;refine Calls.spliced_cons (dP (ha pins s σ H _ I h) fun u s1 ⟨x,H1,I1,r1,q1⟩=>?_);exact dP (hr pos pins s1 σ H1 _ I1 q1) fun us s2 ⟨xs,H2,I2,r2,q2⟩=>⟨x::xs,H2,I2,.cons r1 r2,q2⟩
noncomputable def NW (t:TA):TE:=fun σ H Q=>t σ H fun xs H1=>xs.length≤sizeLine∧∀ p,H1 p=none→Q (.ref p) (upd H1 p (.tup xs))
noncomputable def NX (t:TA):TE:=fun σ H Q=>t σ H fun xs H1=>xs.length≤sizeLine∧∀ p,H1 p=none→Q (.ref p) (upd H1 p (.lst xs))
theorem z9 {x1} (h:PA X es t):PE X (.Tuple es x1 pos) (NW t):=by
 intro pins s σ H Q I hq;refine wpAny_Tuple_spliced (dP (h pos pins s σ H _ I hq) fun us s1 ⟨xs,H1,I1,r,z,q⟩=>⟨by rw [← r.length];exact z,?_⟩);have hf:H1 s1.heap.objs.size=none:=I1.dz.fresh (Nat.le_refl _);refine ⟨.ref s1.heap.objs.size,upd H1 s1.heap.objs.size (.tup xs),I1.laid (t':=s1.toks) (fun b u e=>Heap.get?_push_of_some _ e) (Nat.le_refl _) ?_,rfl,q _ hf⟩;exact ⟨z,us,r,⟨_,Heap.get?_push_size _ rfl,rfl,_,rfl⟩⟩
theorem aP (h:PA X es t):PE X (.List es pos) (NX t):=by
 intro pins s σ H Q I hq;refine wpAny_List_spliced (dP (h pos pins s σ H _ I hq) fun us s1 ⟨xs,H1,I1,r,z,q⟩=>⟨by rw [← r.length];exact z,?_⟩);have hf:H1 s1.heap.objs.size=none:=I1.dz.fresh (Nat.le_refl _);refine ⟨.ref s1.heap.objs.size,upd H1 s1.heap.objs.size (.lst xs),I1.laid (t':=s1.toks) (fun b u e=>Heap.get?_push_of_some _ e) (Nat.le_refl _) ?_,rfl,q _ hf⟩;exact ⟨z,us,0,r,Heap.get?_push_size _ rfl⟩
end
noncomputable abbrev Sp:=List V→Hp→VK→XK→Prop
noncomputable abbrev Bw:=List Env→Hp→Shared→XK→Value→Shared→Prop
structure um (P:Program) (w:World) (K:PySem.W.Frag) (mg:Str→Option Value) (base:Heap) (A:Around) (outer:List Env) (s:Shared) (H:Hp):Prop where
 frames:A.frames=some outer
 mod:Mod K mg base
 bs:∀ b o,base.get? b=some o→s.heap.get? b=some o∧H b=none
 GK:base.objs.size≤s.heap.objs.size
 tj:s.heap.FunFrames base outer
 JU:∀ b∈wj outer,H b=none
 dz:rX P w H s.heap
 bare:AllBare s.gens
noncomputable def CE (outer:List Env) (P:Program) (w:World) (H:Hp) (s:Shared) (Q:VK) (u:Value) (s':Shared):Prop :=
 ∃ v H',s'.os=s.os∧AllBare s'.gens∧Un (wj outer) [] H H' s.heap s'.heap∧rX P w H' s'.heap∧RelV v u∧Q v H'
noncomputable def CR (CX:Bw) (outer:List Env) (P:Program) (w:World) (H:Hp) (s:Shared) (Q:VK) (E:XK) (r:Result) (s':Shared):Prop :=
 match r with
 | .ok (.ret u)=>CE outer P w H s Q u s'
 | .ok _=>False
 | .error e=>CX outer H s E e s'
structure qV (P:Program) (w:World) (K:PySem.W.Frag) (mg:Str→Option Value) (base:Heap) (CX:Bw) (k:Nat) (f:Addr) (fd:FuncData) (ps:List Str) (sp:Sp):Prop where
 len:∀ vs H Q E,sp vs H Q E→vs.length=ps.length
 run:∀ (A:Around) (outer:List Env) (s:Shared) (H:Hp) (args:Args) (us:List Value) (vs:List V) (Q:VK) (E:XK),eu k A→um P w K mg base A outer s H→BindsTo s fd args (ps.zip us)→bB vs us→sp vs H Q E →
  codeAny (model P w) A (.call (.ref f) args) (CR CX outer P w H s Q E) s
theorem qV.mono {P:Program} {w:World} {K:PySem.W.Frag} {mg:Str→Option Value} {base:Heap} {CX:Bw} {j k:Nat} {f:Addr} {fd:FuncData} {ps:List Str} {sp:Sp} (F:qV P w K mg base CX j f fd ps sp) (h:j≤k) :
  qV P w K mg base CX k f fd ps sp:=⟨F.len,fun A outer s H args us vs Q E hr=>F.run A outer s H args us vs Q E (hr.mono h)⟩
theorem um.make {P:Program} {w:World} {K:PySem.W.Frag} {mg:Str→Option Value} {base:Heap} {A:Around} {outer:List Env} {s:Shared} {H:Hp} (e:um P w K mg base A outer s H) (C:Addr) (us:List Value) (kw:List (Str×Value)) :
  um P w K mg base (A.under (.builtin "type.__call__" ⟨.ref C::us,kw⟩)) outer s H:=⟨by first | exact e.frames | (simpa [Around.under,Code.envs,Code.isFrame,pushEnvs] using e.frames),e.mod,e.bs,e.GK,e.tj,e.JU,e.dz,e.bare⟩
theorem um.in1 {P:Program} {w:World} {K:PySem.W.Frag} {mg:Str→Option Value} {base:Heap} {A:Around} {outer:List Env} {s:Shared} {H:Hp} (e:um P w K mg base A outer s H) :
  um P w K mg base A.in1 outer s H:=⟨e.frames,e.mod,e.bs,e.GK,e.tj,e.JU,e.dz,e.bare⟩
section
variable {X:Cx} {pins:List (Addr×Obj)} {σ:St} {H:Hp} {s s':Shared}
theorem Inv.Hz (I:Inv X pins σ H s):um X.prog X.w X.K X.mg X.base X.A X.stack s H :=
 ⟨I.ok.frames,I.ok.mod,I.bs,Nat.le_trans I.ok.GK I.sz,I.stack,I.Em,I.dz,I.bare⟩
theorem Inv.after {Q:VK} {u:Value} (I:Inv X pins σ H s) (h:CE X.stack X.prog X.w H s Q u s'):EP X pins σ Q u s':=by
 obtain ⟨v,H',os,bare,un,dz,r,q⟩:=h;obtain ⟨hh,g,d,t,UC⟩:=s';obtain rfl:UC=s.os:=os;exact ⟨v,H',I.call (h':=hh) (g':=g) (d':=d) (t':=t) (ch:=[]) un dz bare (fun b z=>absurd z (by simp)),r,q⟩
end
noncomputable def tCall (sp:Sp) (dvs:List V) (E:XK) (t:TA):TE:=fun σ H Q=>t σ H fun vs H1=>sp (vs++dvs) H1 Q E
noncomputable def NY (C:Addr) (sp:Sp) (dvs:List V) (E:XK) (t:TA):TE:=fun σ H Q=>t σ H fun vs H1=>∀ x dx,H1 x=none→H1 dx=none→dx≠x →
 sp (.ref x::(vs++dvs)) (upd (upd H1 dx (.own x)) x (.ins C dx [])) (fun v H2=>v=.dR∧Q (.ref x) H2) E
noncomputable def Binds (K:PySem.W.Frag) (fd:FuncData) (ps:List Str) (ds:List Value):Prop :=
 ∀ (s:Shared) (us:List Value),K.In s.heap→(us++ds).length=ps.length→BindsTo s fd ⟨us,[]⟩ (ps.zip (us++ds))
theorem Binds.all {K:PySem.W.Frag} {fd:FuncData} {ps:List Str} (h:∀ us:List Value,us.length=ps.length→bindArgs fd ⟨us,[]⟩=pure (ps.zip us)):Binds K fd ps []:=fun s us _ hl=>by
 rw [List.append_nil] at hl ⊢;exact .of_eq (h us hl)
noncomputable def pE (CX:Bw) (X:Cx) (E:XK):Prop:=∀ (pins:List (Addr×Obj)) (σ:St) (H:Hp) (s:Shared) (e:Value) (s':Shared),Inv X pins σ H s→CX X.stack H s E e s'→X.xe e s'
section
variable {X:Cx} {CX:Bw} {k:Nat} {f C:Addr} {fd:FuncData} {ps:List Str} {sp:Sp} {dvs:List V} {ds:List Value} {E:XK} {x m:Str} {p pos apos:Pos} {e o:Expr} {es:List Expr} {ta:TE} {t:TA}
theorem HA {pins:List (Addr×Obj)} {σ:St} {H:Hp} {s:Shared} {Q:VK} {us:List Value} {vs:List V} (F:qV X.prog X.w X.K X.mg X.base CX k f fd ps sp) (hr:eu k X.A) (hb:Binds X.K fd ps ds) (hd:bB dvs ds) (hx:pE CX X E)
  (I:Inv X pins σ H s) (r:bB vs us) (h:sp (vs++dvs) H Q E):wpAny (model X.prog X.w) X.A (call (.ref f) us) (EP X pins σ Q) X.xe s:=by
 have r2:bB (vs++dvs) (us++ds):=r.append hd;have hl:(us++ds).length=ps.length:=by rw [← r2.length];exact F.len _ _ _ _ h
 refine wpAny_call (codeAny_mono (F.run X.A X.stack s H ⟨us,[]⟩ (us++ds) (vs++dvs) Q E hr I.Hz (hb s us I.CV hl) r2 h) fun r s' hq=>?_);cases r with
 | error e=>exact hx pins σ H s e s' I hq
 | ok fl =>
  cases fl with
  | ret u=>exact I.after hq
  | next=>exact False.elim hq
  | brk=>exact False.elim hq
  | cont=>exact False.elim hq
theorem J3 (F:qV X.prog X.w X.K X.mg X.base CX k f fd ps sp) (hr:eu k X.A) (hg:Gl X x) (hm:X.mg x=some (.ref f)) (hk:PySem.W.keepIn X.K (.ref f)=true) (hb:Binds X.K fd ps ds) (hd:bB dvs ds) (hx:pE CX X E)
  (ha:PA X (e::es) t) (C7:(x == ("__debug__":Str))=false:=by decide) (he:starEach (e::es) X.env=(false,eval e X.env)::starEach es X.env:=by rfl) (Ez:(backTo pos (starEach es X.env)).any (·.1)=false:=by rfl) :
  PE X (.Call (.Name x p) (e::es) [] pos) (tCall sp dvs E t):=by
 intro pins s σ H Q I h;refine wpAny_Call_Name_kw (qE I hg hm ?_ C7);refine PySem.W.callWith_K (h₀:=X.base) I.ok.mod.LS hk (dP (ha pos pins s σ H _ I h) fun us s1 ⟨vs,H1,I1,r,q⟩=>⟨I1.CV,?_⟩) he Ez;exact HA F hr hb hd hx I1 r q
structure Mk (K:PySem.W.Frag) (C f:Addr):Prop where
 makes:PySem.W.makesIn K C=true
 init:PySem.W.findIn K (.ref C) "__init__"=some (some (.ref f))
 fn:PySem.W.isFn K (.ref f)=true
 kp:PySem.W.keepIn K (.ref C)=true
theorem Bx {pins:List (Addr×Obj)} {σ:St} {H:Hp} {s:Shared} {Q:VK} {us:List Value} {vs:List V} (M:Mk X.K C f) (F:qV X.prog X.w X.K X.mg X.base CX k f fd ps sp) (hr:eu (k+1) X.A) (hb:Binds X.K fd ps ds) (hd:bB dvs ds)
  (hx:pE CX X E) (I:Inv X pins σ H s) (r:bB vs us)
  (h:∀ x dx,H x=none→H dx=none→dx≠x→sp (.ref x::(vs++dvs)) (upd (upd H dx (.own x)) x (.ins C dx [])) (fun v H2=>v=.dR∧Q (.ref x) H2) E) :
  wpAny (model X.prog X.w) X.A (call (.ref C) us) (EP X pins σ Q) X.xe s:=by
 have hq:=h (s.heap.objs.size+1) s.heap.objs.size (I.dz.fresh (Nat.le_succ _)) (I.dz.fresh (Nat.le_refl _)) (Nat.ne_of_lt (Nat.lt_succ_self _));have I2:=Inv.made (C:=C) I;have r2:bB (V.ref (s.heap.objs.size+1)::(vs++dvs)) (Value.ref (s.heap.objs.size+1)::(us++ds)):=.cons rfl (r.append hd);have hl:(Value.ref (s.heap.objs.size+1)::us++ds).length=ps.length:=by
  have e:=r2.length;rw [F.len _ _ _ _ hq] at e;exact e.symm
 refine wpAny_call (Hx (f:=f) I.CV M.makes M.init (beq_iff_eq.mp M.fn) (codeAny_mono (F.run _ X.stack _ _ ⟨Value.ref (s.heap.objs.size+1)::us,[]⟩ (Value.ref (s.heap.objs.size+1)::(us++ds)) _ _ E (hr.make C us [])
  (I2.Hz.make C us []) (hb _ (Value.ref (s.heap.objs.size+1)::us) I2.CV hl) r2 hq) fun r s' Fz=>?_))
 cases r with
 | error e=>exact hx pins σ _ _ e s' I2 Fz
 | ok fl =>
  cases fl with
  | ret u =>
   obtain ⟨v,H',I3,rv,ev,q3⟩:=I2.after Fz;subst ev;exact ⟨rv,⟨V.ref (s.heap.objs.size+1),H',I3,rfl,q3⟩⟩
  | next=>exact False.elim Fz
  | brk=>exact False.elim Fz
  | cont=>exact False.elim Fz
theorem HB (M:Mk X.K C f) (F:qV X.prog X.w X.K X.mg X.base CX k f fd ps sp) (hr:eu (k+1) X.A) (hg:Gl X x) (hm:X.mg x=some (.ref C)) (hb:Binds X.K fd ps ds) (hd:bB dvs ds) (hx:pE CX X E)
  (C7:(x == ("__debug__":Str))=false:=by decide):PE X (.Call (.Name x p) [] [] pos) (NY C sp dvs E tNil):=by
 intro pins s σ H Q I h;refine wpAny_Call_Name_kw (qE I hg hm ?_ C7);exact PySem.W.callWith_K0 I.CV M.kp (Bx (us:=[]) M F hr hb hd hx I .nil h)
end
section
variable {X:Cx} {CX:Bw} {k:Nat} {f C:Addr} {fd:FuncData} {ps ks:List Str} {sp:Sp} {E:XK} {x m:Str} {p pos apos UD:Pos} {e o:Expr} {es:List Expr} {kws:List Keyword} {te ta:TE} {t tk:TA} {nm:Option Str}
variable {g:List Value→List Value→List Value} {gV:List V→List V→List V}
end
structure ay (N P:List Str) (sc:Scope):Prop where
 kind:sc.kind=.function
 co:sc.isCoroutine=false
 gen:sc.isGenerator=false
 nd:N.Nodup
 pre:N.take P.length=P
 par:∀ x∈P,sc.names.lookup x=some .local∨sc.names.lookup x=some .cell
 L3:∀ y∈sc.names,y.2≠.free
theorem zr {kindOf:Str→Option NameKind} {x:Str}:∀ {binds:List (Str×Value)} {m:Str→Option Value},(∀ v,(x,v)∉binds)→bindL kindOf binds m x=m x
 | [],_,_=>rfl
 | (n,v)::r,m,h=>by
  unfold bindL;rw [zr fun w hw=>h w (List.mem_cons_of_mem _ hw)];split
  ·have:x≠n:=by rintro rfl;exact h v List.mem_cons_self
   simp [this]
  ·rfl
theorem zt {kindOf:Str→Option NameKind} {x:Str}:∀ {binds:List (Str×Value)} {m:Str→Option Value},(∀ v,(x,v)∉binds)→bindC kindOf binds m x=m x
 | [],_,_=>rfl
 | (n,v)::r,m,h=>by
  unfold bindC;rw [zt fun w hw=>h w (List.mem_cons_of_mem _ hw)];split
  ·rfl
  ·have:x≠n:=by rintro rfl;exact h v List.mem_cons_self
   simp [this]
theorem zu {kindOf:Str→Option NameKind} {x:Str} {v:Value}:∀ {P:List Str} {vs:List Value} {i:Nat} {m:Str→Option Value},P.Nodup→P[i]?=some x→vs[i]?=some v→kindOf x=some .local →
  bindL kindOf (P.zip vs) m x=some v
 | [],_,_,_,_,h,_,_=>by simp at h
 | _::_,[],_,_,_,_,h,_=>by simp at h
 | p::P,w::vs,0,m,nd,h1,h2,hk=>by
  simp at h1 h2;subst h1;subst h2;show bindL kindOf ((p,w)::P.zip vs) m p=_;unfold bindL;rw [zr fun v hv=>(List.nodup_cons.mp nd).1 (List.of_mem_zip hv).1,if_pos hk];simp
 | p::P,w::vs,i+1,m,nd,h1,h2,hk=>by
  show bindL kindOf ((p,w)::P.zip vs) m x=_;unfold bindL;exact zu (i:=i) (List.nodup_cons.mp nd).2 (by simpa using h1) (by simpa using h2) hk
theorem zv {kindOf:Str→Option NameKind} {x:Str} {v:Value}:∀ {P:List Str} {vs:List Value} {i:Nat} {m:Str→Option Value},P.Nodup→P[i]?=some x→vs[i]?=some v→kindOf x≠some .local →
  bindC kindOf (P.zip vs) m x=some v
 | [],_,_,_,_,h,_,_=>by simp at h
 | _::_,[],_,_,_,_,h,_=>by simp at h
 | p::P,w::vs,0,m,nd,h1,h2,hk=>by
  simp at h1 h2;subst h1;subst h2;show bindC kindOf ((p,w)::P.zip vs) m p=_;unfold bindC;rw [zt fun v hv=>(List.nodup_cons.mp nd).1 (List.of_mem_zip hv).1,if_neg hk];simp
 | p::P,w::vs,i+1,m,nd,h1,h2,hk=>by
  show bindC kindOf ((p,w)::P.zip vs) m x=_;unfold bindC;exact zv (i:=i) (List.nodup_cons.mp nd).2 (by simpa using h1) (by simpa using h2) hk
noncomputable def start (N:List Str) (vs:List V):St:=vs.map some++List.replicate (N.length - vs.length) none
noncomputable def uo (CX:Bw) (P:Program) (w:World) (K:PySem.W.Frag) (mg:Str→Option Value) (base:Heap) (N:List Str) (qual:Str) (scope:Scope) (f:Addr) (cd:Value) (A:Around) (outer:List Env) (s:Shared) (H:Hp) (E:XK):Cx where
 prog:=P
 w:=w
 K:=K
 mg:=mg
 base:=base
 A:=A.deeper (envOfC qual scope s.heap.objs.size f cd)
 N:=N
 eg:=s
 H₀:=H
 env:=envOfC qual scope s.heap.objs.size f cd
 outer:=outer
 stack:=envOfC qual scope s.heap.objs.size f cd::outer
 ex:=[]
 calm:=true
 fn:=fun _=>true
 pn:=[]
 xe:=fun e s'=>wpAny (model P w) (A.deeper (envOfC qual scope s.heap.objs.size f cd)) («leaving» (envOfC qual scope s.heap.objs.size f cd) e) (fun _ zw=>CX outer H s E e zw) (fun e' zw=>CX outer H s E e' zw) s'
theorem By {sc:Scope} {n:Nat} {x:Str} (h:sc.names.lookup x=some .cell):∃ c,(cellsFrom n sc.names []).lookup x=some c:=by
 have q:=PySem.W.cellsFrom_some sc.names n [] (.inl h);exact Option.isSome_iff_exists.mp q
theorem zx {CX:Bw} {P:Program} {w:World} {K:PySem.W.Frag} {mg:Str→Option Value} {base:Heap} {N ps:List Str} {qual:Str} {scope:Scope} {f:Addr} {cd:Value} {A:Around} {outer:List Env} {s s1:Shared} {H:Hp} {E:XK} {us:List Value} {vs:List V}
  (S:ay N ps scope) (hd:A.handled=none) (e0:um P w K mg base A outer s H) (hl:vs.length=ps.length) (r:bB vs us)
  (x:InCallC s s.heap.objs.size (bindL (envOfC qual scope s.heap.objs.size f cd).kindOf (ps.zip us) fun _=>none) (cellsFrom (s.heap.objs.size+1) scope.names []) (bindC (envOfC qual scope s.heap.objs.size f cd).kindOf (ps.zip us) fun _=>none) s1) :
  Inv (uo CX P w K mg base N qual scope f cd A outer s H E) [] (start N vs) H s1:=by
 have Ez:ps.length≤N.length:=by have:=congrArg List.length S.pre;rw [List.length_take] at this;omega
 obtain ⟨h1,tk,rfl,hk⟩:=x.done;have L4:∀ b:Addr,b∉(uo CX P w K mg base N qual scope f cd A outer s H E).ex:=fun b z=>absurd (show b∈([]:List Addr) from z) (by simp);refine ⟨⟨e0.mod,S.kind,rfl,rfl,Nat.le_refl _,fun y z c h1 h2=>?_,fun y hy=>?_,fun y c _ h=>?_,fun _=>hd,Around.frames_deeper e0.frames,.inr ⟨rfl,rfl⟩,fun b z=>absurd z (L4 b),e0.bs,e0.GK,fun b _ _=>L4 b,fun b z=>absurd z (L4 b),e0.tj,e0.JU⟩,
  rfl,e0.bare,Un.kept hk,⟨_,x.toInCall.ns,fun i y v h1 h2 h3=>?_⟩,fun y c h=>⟨_,x.cell y c h⟩,e0.dz.fresh (Nat.le_refl _),fun y c h=>?_,fun p hp=>absurd (show p∈([]:List (Addr×Obj)) from hp) (by simp),e0.dz.kept hk,?_⟩
 ·exact name_of_addr x.apart (PySem.mem_of_lookup h1) (PySem.mem_of_lookup h2)
 ·have hy:scope.names.lookup y=some .cell∨scope.names.lookup y=some .free:=hy;rcases hy with hy | hy
  ·exact By hy
  ·exact absurd rfl (S.L3 _ (PySem.mem_of_lookup hy))
 ·exact Nat.le_of_lt (x.above y c (PySem.mem_of_lookup h))
 ·have hi:i < vs.length:=by
   unfold start at h2;by_cases hi:i < vs.length
   ·exact hi
   ·rw [List.getElem?_append_right (by simpa using hi)] at h2;rw [List.getElem?_replicate] at h2;split at h2 <;> cases h2
  have ha:vs[i]?=some v:=by
   unfold start at h2;rw [List.getElem?_append_left (by simpa using hi),List.getElem?_map] at h2;cases e:vs[i]? with
   | none=>rw [e] at h2;cases h2
   | some a=>rw [e] at h2;cases h2;rfl
  obtain ⟨u,hu,rv⟩:=r.get ha;have hp:ps[i]?=some y:=by
   rw [← S.pre,List.getElem?_take_of_lt (by omega)];exact h1
  have Pf:ps.Nodup:=by rw [← S.pre];exact S.nd.sublist (List.take_sublist _ _)
  refine ⟨u,rv,?_⟩;rcases S.par y (List.mem_of_getElem? hp) with k | k
  ·exact .inl ⟨k,zu Pf hp hu k⟩
  ·obtain ⟨c,e⟩:=By (n:=s.heap.objs.size+1) k;refine .inr ⟨.inl k,c,e,?_⟩;have q:=x.cell y c e;rw [zv Pf hp hu (by show scope.names.lookup y≠_;rw [k];decide)] at q;exact q
 ·exact e0.dz.fresh (Nat.le_of_lt (x.above y c (PySem.mem_of_lookup h)))
 ·unfold start;show _=N.length;rw [List.length_append,List.length_map,List.length_replicate];omega
theorem La {CX:Bw} {P:Program} {w:World} {K:PySem.W.Frag} {mg:Str→Option Value} {base:Heap} {k:Nat} {f:Addr} {name qual:Str} {params:Arguments} {body:List Stmt} {scope:Scope} {dV kV doc pm bJ ct oc:Value} {an od:Option Addr}
  {FA:Array (Option Value)} {N ps:List Str} {sp:Sp} (lk:K.lookup f=some ⟨oc,od,.func (PySem.W.fnOf name qual params body scope dV kV doc pm an bJ ct),FA⟩) (nW:PySem.W.codeIn K bJ qual=true) (S:ay N ps scope)
  (len:∀ vs H Q E,sp vs H Q E→vs.length=ps.length)
  (jR:∀ (A:Around) (outer:List Env) (s:Shared) (H:Hp) (vs:List V) (Q:VK) (E:XK),eu k (A.deeper (envOfC qual scope s.heap.objs.size f bJ))→sp vs H Q E →
   ∃ t,Br (uo CX P w K mg base N qual scope f bJ A outer s H E) body t∧t { nx:=fun _ H'=>Q .dR H',rt:=Q } (start N vs) H) :
  qV P w K mg base CX (k+1) f (PySem.W.fnOf name qual params body scope dV kV doc pm an bJ ct) ps sp:=by
 refine ⟨len,fun A outer s H args us vs Q E hr e0 hb r Cw=>?_⟩;have hl:=len _ _ _ _ Cw;have KX:K.In s.heap:=e0.mod.LS.keeps fun b o e=>(e0.bs b o e).1;have lim:s.heap.NoLimit:=e0.mod.nolimit.keeps fun b o e=>(e0.bs b o e).1;have HC:∀ y∈ps.zip us,scope.names.lookup y.1=some .local∨(scope.names.lookup y.1=some .cell∧((cellsFrom (s.heap.objs.size+1) scope.names []).lookup y.1).isSome=true):=fun ⟨n,v⟩ hy=>by
  rcases S.par n (List.of_mem_zip hy).1 with q | q
  ·exact .inl q
  ·exact .inr ⟨q,PySem.W.cellsFrom_some _ _ _ (.inl q)⟩
 refine codeAny_call_function hr.depth (KX _ _ lk) rfl S.co S.gen rfl (PySem.W.codeRec_of KX nW) (hb _ _ _ _ ?_);refine wpAny_newFunctionEnv_cells S.kind HC fun env he s1 x=>?_;subst he;refine ⟨lim.keeps x.toInCall.keep,codeAny_func ?_⟩;obtain ⟨t,ht,hq⟩:=jR A outer s H vs Q E (hr.deeper _) Cw;have I:Inv (uo CX P w K mg base N qual scope f bJ A outer s H E) [] (start N vs) H s1:=zx S hr.hd e0 hl r x;refine wpAny_mono (ht [] s1 (start N vs) H _ I hq) (fun fl s' hs=>?_) fun e s' hs=>hs;have fin:∀ {di:St} {H':Hp} {v:V} {u:Value},Inv (uo CX P w K mg base N qual scope f bJ A outer s H E) [] di H' s'→RelV v u→Q v H'→CE outer P w H s Q u s' :=
  fun {di H' v u} J rv q=>⟨v,H',J.os,J.bare,J.base,J.dz,rv,q⟩
 cases fl with
 | ret u =>
  obtain ⟨v,di,H',J,rv,q⟩:=hs;exact fin J rv q
 | next =>
  obtain ⟨di,H',J,q⟩:=hs;exact fin (v:=V.dR) (u:=Value.none) J rfl q
 | brk =>
  obtain ⟨_,_,_,q⟩:=hs;exact False.elim q
 | cont =>
  obtain ⟨_,_,_,q⟩:=hs;exact False.elim q
section
variable {X:Cx} {x:Str} {p pos:Pos} {e:Expr} {es:List Expr} {t:TA} {id T:String} {r:List V→Hp→VK→Prop}
noncomputable def tCB (r:List V→Hp→VK→Prop) (t:TA):TE:=fun σ H Q=>t σ H fun vs H1=>r vs H1 Q
theorem bA (hc:rq X (.builtin id) r) (hg:Gl X x) (hm:X.mg x=none) (hv:bootBuiltins x=some (.builtin id)) (ha:PA X (e::es) t) (hn:x≠"__name__":=by decide) (C7:(x == ("__debug__":Str))=false:=by decide)
  (he:starEach (e::es) X.env=(false,eval e X.env)::starEach es X.env:=by rfl) (Ez:(backTo pos (starEach es X.env)).any (·.1)=false:=by rfl):PE X (.Call (.Name x p) (e::es) [] pos) (tCB r t):=by
 intro pins s σ H Q I h;refine wpAny_Call_Name_kw (w6 I hg hm hv ?_ hn C7);exact PyProof.Rows.callWith_builtin1 (dP (ha pos pins s σ H _ I h) fun us s1 ⟨vs,H1,I1,r1,q1⟩=>hc pins s1 σ H1 vs us Q I1 r1 q1) he Ez
theorem FD (hc:rq X (.type T) r) (hg:Gl X x) (hm:X.mg x=none) (hv:bootBuiltins x=some (.type T)) (ha:PA X (e::es) t) (hn:x≠"__name__":=by decide) (C7:(x == ("__debug__":Str))=false:=by decide)
  (he:starEach (e::es) X.env=(false,eval e X.env)::starEach es X.env:=by rfl) (Ez:(backTo pos (starEach es X.env)).any (·.1)=false:=by rfl):PE X (.Call (.Name x p) (e::es) [] pos) (tCB r t):=by
 intro pins s σ H Q I h;refine wpAny_Call_Name_kw (w6 I hg hm hv ?_ hn C7);exact PyProof.Rows.callWith_type1 (dP (ha pos pins s σ H _ I h) fun us s1 ⟨vs,H1,I1,r1,q1⟩=>hc pins s1 σ H1 vs us Q I1 r1 q1) he Ez
end
end L2
namespace HT
open PySem PyProof.Rows
noncomputable def lexLt:List Int→List Int→Bool
 | [],[]=>false
 | [],_::_=>true
 | _::_,[]=>false
 | x::xs,y::ys=>if x=y then lexLt xs ys else decide (x < y)
theorem r6 (x y:Int) (xs ys:List Int):lexLt (x::xs) (y::ys)=if x=y then lexLt xs ys else decide (x < y):=rfl
theorem rz:lexLt [] []=false:=rfl
theorem xc (y:Int) (ys:List Int):lexLt [] (y::ys)=true:=rfl
theorem xf (x:Int) (xs:List Int):lexLt (x::xs) []=false:=rfl
theorem Bz (A:Around) (s:Shared) (a:Int) (t:Tok) (c:Int) (u:Tok):∃ e,SeqAt.EqAt A s (.int a t) (.int c u) e∧(e=true↔a=c) :=
 ⟨(a == c),SeqAt.EqAt.int_int a t c u,by simp⟩
theorem BB (A:Around) (s:Shared) (a:Int) (t:Tok) (c:Int) (u:Tok) (prog:Program) (w:World) (E:Value→Shared→Prop) (Q:Value→Shared→Prop) (h:Q (.bool (decide (a < c))) s) :
  wpAny (model prog w) A (richCompare .Lt (.int a t) (.int c u)) Q E s :=
 (PyProof.Rows.lt_int h:wpAny (model prog w) A (compareOp .Lt (.int a t) (.int c u)) Q E s)
section
open PySem.SeqAt
open PySem.AutoSeq1 (wpAny_loadPart')
open PySem.MeetsSeq PySem.MeetsSeq2 PySem.MeetsSeq3
theorem yQ (l b:Addr) (items ej:Array Value) (n n2:Nat) (dd L5:Option Addr) (sl J4:Array (Option Value)) (ns ms:List Int) (hi:IntsAre items.toList ns) (hj:IntsAre ej.toList ms) :
  Meets (Builtin.«tuple.__lt__» ⟨[.ref l,.ref b],[]⟩)
   (fun _ R s=>s.heap.get? l=some { cls:=.type "tuple",dict:=dd,data:=.seq items n,slots:=sl }∧s.heap.get? b=some { cls:=.type "tuple",dict:=L5,data:=.seq ej n2,slots:=J4 } ∧
    R (.ok (.ret (.bool (lexLt ns ms)))) s) :=
 .of_wp fun prog w A R s h=>by
  obtain ⟨hp,g,d,tk,os⟩:=s;obtain ⟨hl,hb,h⟩:=h;have f2:=AutoSeq1.sub_tuple_tuple;have z1:items.size=ns.length:=by rw [← hi.length];simp
  have z2:ej.size=ms.length:=by rw [← hj.length];simp
  wp_walk using wpAny_loadPart' hl,wpAny_loadPart' hb,wpAny_forIn_list _ (fun rest b s'=>b.1=none∧s'=⟨hp,g,d,tk,os⟩∧∃ (vs ws:List Value) (FE FG:List Int),rest=vs.zip ws ∧
   IntsAre vs FE∧IntsAre ws FG∧FE.length+ej.size=FG.length+items.size∧R (.ok (.ret (.bool (lexLt FE FG)))) ⟨hp,g,d,tk,os⟩) _
  case turn =>
   rintro ⟨y,x⟩ rest b s' ⟨uq,rfl,vs,ws,FE,FG,hz,L7,Ju,hlen,hR⟩;cases L7 with
   | nil=>rw [List.zip_nil_left] at hz;cases hz
   | cons a t L8 =>
    cases Ju with
    | nil=>rw [List.zip_nil_right] at hz;cases hz
    | cons c u L9 =>
     rw [List.zip_cons_cons] at hz;injection hz with Qy BC;injection Qy with hy hx;subst hy hx;rw [r6] at hR;simp only [List.length_cons] at hlen;obtain ⟨e,he,HD⟩:=Bz A.in1 ⟨hp,g,d,tk,os⟩ a t c u;refine wpAny_bind (he prog w _ _ ?_);cases e with
     | true =>
      rw [if_pos (HD.mp rfl)] at hR
      wp_walk
      exact ⟨rfl,rfl,_,_,_,_,BC,L8,L9,by omega,hR⟩
     | false =>
      rw [if_neg (fun q=>absurd (HD.mpr q) Bool.false_ne_true)] at hR;have Qz:=BB A.in1 ⟨hp,g,d,tk,os⟩ a t c u prog w
      wp_walk using Qz
      exact ⟨_,rfl,by simpa using hR⟩
  case fin =>
   rintro ⟨b1,b2⟩ s' ⟨uq,rfl,vs,ws,FE,FG,hz,L7,Ju,hlen,hR⟩;simp only at uq;subst uq;have hv:lexLt FE FG=decide (items.size < ej.size):=by
    cases L7 with
    | nil =>
     cases Ju with
     | nil =>
      simp only [List.length_nil] at hlen;rw [rz];exact (decide_eq_false (by omega)).symm
     | cons c u hw =>
      simp only [List.length_nil,List.length_cons] at hlen;rw [xc];exact (decide_eq_true (by omega)).symm
    | cons a t hv =>
     cases Ju with
     | nil =>
      simp only [List.length_nil,List.length_cons] at hlen;rw [xf];exact (decide_eq_false (by omega)).symm
     | cons c u hw =>
      rw [List.zip_cons_cons] at hz;cases hz
   rw [hv] at hR
   wp_walk
   exact ⟨_,rfl,by simpa [Builtin.Tuple.tupleCompareSizes] using hR⟩
  case h =>
   exact ⟨rfl,rfl,items.toList,ej.toList,ns,ms,rfl,hi,hj,by omega,h⟩
end
section
variable {prog:Program} {w:World} {A:Around} {E:Value→Shared→Prop} {s:Shared}
theorem C8 {l b:Addr} {items ej:Array Value} {ns ms:List Int} {Q:Value→Shared→Prop} (hl:IsTup s.heap l items) (hb:IsTup s.heap b ej) (hi:IntsAre items.toList ns) (hj:IntsAre ej.toList ms)
  (hu:A.units < cLine) (h:Q (.bool (lexLt ns ms)) s):wpAny (model prog w) A (compareOp .Lt (.ref l) (.ref b)) Q E s:=by
 obtain ⟨⟨cls,dd,data,sl⟩,ho,hc,n,hd⟩:=id hl;obtain ⟨⟨QA,L5,data2,J4⟩,Ma,FH,n2,hd2⟩:=id hb;simp only at hc hd FH hd2;subst hc hd FH hd2;exact richCompare_meets_room (op:=.Lt) ⟨_,ho,rfl⟩ ⟨_,Ma,rfl⟩ PySem.F.slot_tuple_lt PySem.F.entry_tuple_lt (PySem.F.args_tuple_lt_2 _ _) (yQ l b items ej n n2 dd L5 sl J4 ns ms hi hj)
  ⟨ho,Ma,show Value.bool (lexLt ns ms)≠Value.notImplemented∧Q (.bool (lexLt ns ms)) s from ⟨(fun x=>nomatch x),h⟩⟩ hu
noncomputable def Cy (n d:Nat):Option Int→Nat
 | none=>d
 | some v=>if v < 0 then (v+(n:Int)).toNat else min v.toNat n
theorem EA (n d k:Nat):Cy n d (some (k:Int))=min k n:=by
 show (if (k:Int) < 0 then ((k:Int)+(n:Int)).toNat else min (k:Int).toNat n)=min k n;rw [if_neg (by omega),Int.toNat_natCast]
end
end HT
namespace L2
open PySem PySem.Spec PyProof.Rows
noncomputable abbrev TO:=St→Hp→(Option Int→Hp→Prop)→Prop
noncomputable def PO (X:Cx) (e:Option Expr) (t:TO):Prop :=
 ∀ (pins:List (Addr×Obj)) (s:Shared) (σ:St) (H:Hp) (Q:Option Int→Hp→Prop),Inv X pins σ H s→t σ H Q →
  wpAny (model X.prog X.w) X.A (evalPart e X.env) (fun u s'=>∃ o H',Inv X pins σ H' s'∧IsPart u o∧Q o H') X.xe s
noncomputable def NZ (t:TE):TO:=fun σ H Q=>t σ H fun x H1=>∃ i,x=.int i∧Q (some i) H1
theorem intsAre_of {ns:List Int}:∀ {us:List Value},bB (ns.map V.int) us→IntsAre us ns:=by
 induction ns with
 | nil=>intro us r;rw [List.map_nil] at r;cases r;exact .nil
 | cons n ns ih =>
  intro us r;rw [List.map_cons] at r;cases r with
  | cons r1 r2 =>
   obtain ⟨t,e⟩:=r1;subst e;exact .cons n t (ih r2)
section
variable {X:Cx} {e:Expr} {te:TE} {lo hi:Option Expr} {tl th:TO} {pos p2:Pos}
theorem wm (h:PE X e te):PO X (some e) (NZ te):=by
 intro pins s σ H Q I hw;rw [evalPart_some];refine dP (h pins s σ H _ I hw) fun u s1 ⟨x,H1,I1,r1,q1⟩=>?_;obtain ⟨i,rfl,q⟩:=q1;obtain ⟨t,rfl⟩:=r1;exact ⟨some i,H1,I1,.int i t,q⟩
noncomputable def Sq (X:Cx) (r:V→Option Int→Option Int→Hp→VK→Prop):Prop :=
 ∀ (pins:List (Addr×Obj)) (s:Shared) (σ:St) (H:Hp) (x:V) (v vl vu:Value) (lo hi:Option Int) (sl:Addr) (Q:VK),Inv X pins σ H s→RelV x v→s.heap.IsSliceOf sl vl vu .none→IsPart vl lo→IsPart vu hi→r x lo hi H Q →
  ∃ T id,typeLookup (.type T) "__getitem__"=pure (some (.builtin id))∧s.TypeIs v T∧wpAny (model X.prog X.w) X.A (getItem v (.ref sl)) (EP X pins σ Q) X.xe s
noncomputable def UE (r:V→Option Int→Option Int→Hp→VK→Prop) (te:TE) (tl th:TO):TE:=fun σ H Q=>te σ H fun x H1=>tl σ H1 fun l H2=>th σ H2 fun u H3=>r x l u H3 Q
theorem BD {r:V→Option Int→Option Int→Hp→VK→Prop} (hr:Sq X r) (he:PE X e te) (hl:PO X lo tl) (hu:PO X hi th):PE X (.Subscript e (.Slice lo hi none p2) pos) (UE r te tl th):=by
 intro pins s σ H Q I h;refine Subscript_ (dP (he pins s σ H _ I h) fun v s1 ⟨x,H1,I1,r1,q1⟩=>?_);refine wpAny_Slice (dP (hl pins s1 σ H1 _ I1 q1) fun vl s2 ⟨l,H2,I2,pl,q2⟩=>dP (hu pins s2 σ H2 _ I2 q2) fun vu s3 ⟨u,H3,I3,pu,q3⟩=>?_);rw [evalPart_none];refine wpAny_pure ?_;have I4:Inv X pins σ H3 { s3 with heap:=s3.heap.push { cls:=.type "slice",data:=.fields #[vl,vu,.none] } }:=I3.kept (t':=s3.toks) fun b ob q=>Heap.get?_push_of_some _ q;obtain ⟨T,id,hT,ht,hg⟩:=hr pins { s3 with heap:=s3.heap.push { cls:=.type "slice",data:=.fields #[vl,vu,.none] } } σ H3 x v vl vu l u s3.heap.objs.size Q I4 r1 (Heap.IsSliceOf.new ..) pl pu q3;show wpAny (model X.prog X.w) X.A (subscriptTail e (.Slice lo hi none p2) v (.ref s3.heap.objs.size)) (EP X pins σ Q) X.xe { s3 with heap:=s3.heap.push { cls:=.type "slice",data:=.fields #[vl,vu,.none] } };exact tail_any (ops:=[.ref s3.heap.objs.size,v]) ht hT hg (by with_unfolding_all rfl)
noncomputable def BE (xs:List V) (lo hi:Option Int):List V:=(xs.drop (HT.Cy xs.length 0 lo)).take (HT.Cy xs.length xs.length hi - HT.Cy xs.length 0 lo)
theorem BF (xs:List V) (lo hi:Option Int):(BE xs lo hi).length≤xs.length:=by
 unfold BE;rw [List.length_take,List.length_drop];omega
noncomputable def QB (K:PySem.W.Frag):R2:=fun x y H Q=>∃ a b ns ms,x=.ref a∧y=.ref b∧vi K H a (ns.map V.int)∧vi K H b (ms.map V.int)∧Q (.bl (HT.lexLt ns ms)) H
theorem Mb (hu:X.A.units < cLine):pC X (compareOp .Lt) (QB X.K):=by
 intro pins s σ H x y v u Q I rx ry h;obtain ⟨a,b,ns,ms,rfl,rfl,ha,hb,q⟩:=h;cases rx;cases ry;obtain ⟨its,r1,p1,_⟩:=I.tuple ha;obtain ⟨xg,r2,p2,_⟩:=I.tuple hb;have i1:IntsAre its.toArray.toList ns:=intsAre_of r1;have i2:IntsAre xg.toArray.toList ms:=intsAre_of r2;exact HT.C8 p1 p2 i1 i2 hu ⟨.bl (HT.lexLt ns ms),H,I,rfl,q⟩
end
noncomputable def Lb (n:Nat) (i:Int):Option Nat:=if 0≤i then (if i < n then some i.toNat else none) else if -(n:Int)≤i then some (i+n).toNat else none
noncomputable def Cz {α:Type} (xs:List α) (i:Int):Option α:=(Lb xs.length i).bind fun j=>xs[j]?
theorem EB {n:Nat} {i:Int} {j:Nat} (h:Lb n i=some j):seqIndex? i n=some j∧j < n∧-(n:Int)≤i∧i < n:=by
 unfold Lb at h;by_cases h0:0≤i
 ·rw [if_pos h0] at h;by_cases h1:i < n
  ·rw [if_pos h1] at h;have e:i.toNat=j:=Option.some.inj h;exact ⟨by rw [seqIndex_of h0 h1,e],by omega,by omega,h1⟩
  ·rw [if_neg h1] at h;cases h
 ·rw [if_neg h0] at h;by_cases h1:-(n:Int)≤i
  ·rw [if_pos h1] at h;have e:(i+n).toNat=j:=Option.some.inj h;exact ⟨by rw [seqIndex_neg (by omega) h1,e],by omega,h1,by omega⟩
  ·rw [if_neg h1] at h;cases h
theorem EC {α:Type} {xs:List α} {i:Int} {v:α} (h:Cz xs i=some v):∃ j,seqIndex? i xs.length=some j∧xs[j]?=some v∧j < xs.length∧-(xs.length:Int)≤i∧i < xs.length:=by
 unfold Cz at h;cases e:Lb xs.length i with
 | none=>rw [e] at h;cases h
 | some j =>
  rw [e] at h;obtain ⟨h1,h2,h3,h4⟩:=EB e;exact ⟨j,h1,h,h2,h3,h4⟩
noncomputable def ED (b:Expr):Prop:=∀ o i,subscripted b false o i=operate [o,i] (getItem o i)
noncomputable def Pg (X:Cx) (r:R2):Prop :=
 ∀ (value slice:Expr) (pins:List (Addr×Obj)) (s:Shared) (σ:St) (H:Hp) (x y:V) (v u:Value) (Q:VK),Inv X pins σ H s→RelV x v→RelV y u→r x y H Q →
  subscripted slice false v u=operate [v,u] (getItem v u)→wpAny (model X.prog X.w) X.A (subscriptTail value slice v u) (EP X pins σ Q) X.xe s
noncomputable def Ph (X:Cx) (id:String) (r:V→List V→Hp→VK→Prop):Prop :=
 ∀ (pins:List (Addr×Obj)) (s:Shared) (σ:St) (H:Hp) (x:V) (xs:List V) (v:Value) (us:List Value) (Q:VK),Inv X pins σ H s→RelV x v→bB xs us→r x xs H Q →
  wpAny (model X.prog X.w) X.A (call (.builtin id) (v::us)) (EP X pins σ Q) X.xe s
section
variable {X:Cx} {a b:Expr} {ta tb:TE} {pos:Pos}
theorem bu {r:R2} (hr:Pg X r) (ha:PE X a ta) (hb:PE X b tb) (hs:ED b):PE X (.Subscript a b pos) (tOp r ta tb):=by
 intro pins s σ H Q I h;exact Subscript_ (LZ ha hb I h fun v u s2 x y H2 I2 rx ry q=>hr a b pins s2 σ H2 x y v u Q I2 rx ry q (hs _ _))
noncomputable def Mc (K:PySem.W.Frag):R2:=fun x y H Q=>∃ p xs i v,x=.ref p∧y=.int i∧bU K H p xs∧Cz xs i=some v∧Q v H
noncomputable def QC (K:PySem.W.Frag):R2:=fun x y H Q=>∃ p xs i v,x=.ref p∧y=.int i∧vi K H p xs∧Cz xs i=some v∧Q v H
theorem aU:Pg X (Mc X.K):=by
 intro value slice pins s σ H x y v u Q I rx ry h hs;obtain ⟨p,xs,i,z,rfl,rfl,hq,he,q⟩:=h;cases rx;obtain ⟨t,rfl⟩:=ry;obtain ⟨its,r,pl,hz⟩:=I.list hq;obtain ⟨j,h1,h2,h3,h4,h5⟩:=EC he;obtain ⟨w,ew,FI⟩:=r.get h2;have hl:=r.length;have hn:=z8;have fin:EP X pins σ Q w s:=⟨z,H,I,FI,q⟩;by_cases h0:0≤i
 ·have hj:i.toNat=j:=by
   rw [seqIndex_of h0 h5] at h1;exact Option.some.inj h1
  exact item_listR pl.isList h0 (by omega) (by rw [hj];simpa using ew) fin hs
 ·have hj:(i+(its.toArray.size:Int)).toNat=j:=by
   rw [seqIndex_neg (by omega) h4] at h1;rw [List.size_toArray,← hl];exact Option.some.inj h1
  exact subscriptTail_builtinR (x:=w) pl.isList.typeIs slot_list_getitem.lookup
   (wpAny_getItem_list_neg (Q:=fun r s'=>r=w∧EP X pins σ Q r s') pl.isList (by omega) (by rw [List.size_toArray] <;> omega) (by omega) (by rw [hj];simpa using ew) ⟨rfl,fin⟩) hs
theorem Md:Pg X (QC X.K):=by
 intro value slice pins s σ H x y v u Q I rx ry h hs;obtain ⟨p,xs,i,z,rfl,rfl,hq,he,q⟩:=h;cases rx;obtain ⟨t,rfl⟩:=ry;obtain ⟨its,r,pl,hz⟩:=I.tuple hq;obtain ⟨j,h1,h2,h3,h4,h5⟩:=EC he;obtain ⟨w,ew,FI⟩:=r.get h2;have hl:=r.length;have hn:=z8;have fin:EP X pins σ Q w s:=⟨z,H,I,FI,q⟩;exact subscriptTail_builtinR (x:=w) pl.typeIs slot_tuple_getitem.lookup
  (getItem_tuple (j:=j) (Q:=fun r s'=>r=w∧EP X pins σ Q r s') pl (by omega) (by omega) (by rw [List.size_toArray,← hl];exact h1) (by simpa using ew) ⟨rfl,fin⟩) hs
theorem C9 (its:List Value) (n j:Nat) (u:Value):Obj.mapSeq (·.setIfInBounds j u) { cls:=.type "list",data:=.seq its.toArray n }={ cls:=.type "list",data:=.seq (its.set j u).toArray n }:=by
 simp [Obj.mapSeq]
theorem Inv.lst {pins:List (Addr×Obj)} {σ:St} {H:Hp} {s:Shared} {p:Addr} {xs:List V} (I:Inv X pins σ H s) (h:H p=some (.lst xs)) :
  ∃ (its:List Value) (n:Nat),bB xs its∧s.heap.get? p=some { cls:=.type "list",data:=.seq its.toArray n }∧xs.length≤sizeLine:=by
 obtain ⟨z,its,n,r,e⟩:=I.dz p _ h;exact ⟨its,n,r,e,z⟩
theorem Inv.Me {pins:List (Addr×Obj)} {σ:St} {H:Hp} {s:Shared} {p:Addr} {xs ys:List V} {its nu:List Value} {n n':Nat} {f:Obj→Obj} (I:Inv X pins σ H s) (h:H p=some (.lst xs))
  (ho:s.heap.get? p=some { cls:=.type "list",data:=.seq its.toArray n }) (hf:f { cls:=.type "list",data:=.seq its.toArray n }={ cls:=.type "list",data:=.seq nu.toArray n' }) (r:bB ys nu) (hz:ys.length≤sizeLine) (t:Nat) :
  Inv X pins σ (upd H p (.lst ys)) { s with heap:=s.heap.update p f,toks:=t }:=by
 have e:(s.heap.update p f).get? p=some { cls:=.type "list",data:=.seq nu.toArray n' }:=by
  rw [Heap.get?_update_self f ho (by rw [hf] <;> rfl),hf]
 refine I.write (x:=p) (e:=p) (by rw [h];trivial) (.inl rfl) (fun b u hb q=>(Heap.get?_update_other _ _ (Ne.symm hb)).trans q) ⟨_,e⟩ ?_;exact ⟨hz,nu,n',r,e⟩
noncomputable def N0:V→V→V→Hp→(Hp→Prop)→Prop:=fun o i v H Q=>∃ p xs k j,o=.ref p∧i=.int k∧H p=some (.lst xs)∧Lb xs.length k=some j∧Q (upd H p (.lst (xs.set j v)))
theorem set_list:NO X N0:=by
 intro pins s σ H o i v ov iv u Q I ro ri rv h;obtain ⟨p,xs,k,j,rfl,rfl,hp,hj,q⟩:=h;cases ro;obtain ⟨t,rfl⟩:=ri;obtain ⟨its,n,r,ho,hz⟩:=I.lst hp;obtain ⟨h1,h2,h3,h4⟩:=EB hj;have hl:=r.length;have hn:=z8;have I':Inv X pins σ (upd H p (.lst (xs.set j v))) { s with heap:=s.heap.update p (Obj.mapSeq (·.setIfInBounds j u)) } :=
  I.Me hp ho (C9 its n j u) (r.set rv j) (by rw [List.length_set];exact hz) s.toks
 by_cases h0:0≤k
 ·have hk:k.toNat=j:=by
   rw [seqIndex_of h0 h4] at h1;exact Option.some.inj h1
  exact PySem.W.ki_setAt ho h0 (by omega) (by rw [List.size_toArray,← hl];exact h4) (by rw [hk];exact ⟨_,I',q⟩)
 ·have hk:(k+(its.toArray.size:Int)).toNat=j:=by
   rw [seqIndex_neg (by omega) h3] at h1;rw [List.size_toArray,← hl];exact Option.some.inj h1
  exact PySem.W.ki_setBack ho (by omega) (by rw [List.size_toArray,← hl];exact h3) (by omega) (by rw [hk];exact ⟨_,I',q⟩)
theorem Aa (lo hi:Option Int) (n:Nat):(sliceBounds lo hi none n).1=((HT.Cy n 0 lo:Nat):Int)∧(sliceBounds lo hi none n).2.1=((HT.Cy n n hi:Nat):Int)∧(sliceBounds lo hi none n).2.2=1:=by
 refine ⟨?_,?_,rfl⟩
 ·cases lo with
  | none=>simp [sliceBounds,HT.Cy]
  | some i =>
   simp only [sliceBounds,HT.Cy,Option.getD_none,show (1:Int) > 0 by decide,if_true];by_cases h:i < 0
   ·simp only [h,if_true] <;> omega
   ·simp only [h,if_false] <;> omega
 ·cases hi with
  | none=>simp [sliceBounds,HT.Cy]
  | some i =>
   simp only [sliceBounds,HT.Cy,Option.getD_none,show (1:Int) > 0 by decide,if_true];by_cases h:i < 0
   ·simp only [h,if_true] <;> omega
   ·simp only [h,if_false] <;> omega
theorem yR (its:List Value) (lo hi:Option Int):slicePick its.toArray lo hi none=((its.drop (HT.Cy its.length 0 lo)).take (HT.Cy its.length its.length hi - HT.Cy its.length 0 lo)).toArray:=by
 obtain ⟨h1,h2,h3⟩:=Aa lo hi its.toArray.size;unfold slicePick;rw [h1,h2,h3];simp only [sliceRange_one,pick_run,List.size_toArray] <;> rfl
noncomputable def QD (K:PySem.W.Frag):V→Option Int→Option Int→Hp→VK→Prop:=fun x lo hi H Q=>∃ a xs,x=.ref a∧bU K H a xs∧∀ p,H p=none→Q (.ref p) (upd H p (.lst (BE xs lo hi)))
theorem EE:Sq X (QD X.K):=by
 intro pins s σ H x v vl vu lo hi sl Q I rx hs pl pu h;obtain ⟨a,xs,rfl,hx,q⟩:=h;cases rx;obtain ⟨its,r,ht,hz⟩:=I.list hx;have hlen:=r.length;refine ⟨"list",_,slot_list_getitem.lookup,ht.isList.typeIs,?_⟩;refine wpAny_getItem_list_slice ht.isList hs pl pu .none (by simp) ?_ (by rw [List.size_toArray] <;> omega);rw [yR,← hlen];refine ⟨.ref s.heap.objs.size,_,I.laid (t':=s.toks) (o:=.lst (BE xs lo hi)) (fun b ob q=>Heap.get?_push_of_some _ q) (Nat.le_refl _) ?_,rfl,q _ (I.dz.fresh (Nat.le_refl _))⟩;exact ⟨Nat.le_trans (BF xs lo hi) hz,_,0,(r.drop (HT.Cy xs.length 0 lo)).take (HT.Cy xs.length xs.length hi - HT.Cy xs.length 0 lo),Heap.get?_push_size _ rfl⟩
noncomputable def pF:V→Bool
 | .dR=>true
 | .bl _=>true
 | .int _=>true
 | .str _=>true
 | _=>false
noncomputable def HE:V→V→Bool
 | .dR,.dR=>true
 | .bl a,.bl b=>a == b
 | .bl a,.int b=>(if a then 1 else 0) == b
 | .int a,.bl b=>a == (if b then 1 else 0)
 | .int a,.int b=>a == b
 | .str a,.str b=>a == b
 | _,_=>false
theorem Mf {A:Around} {s:Shared} {y x:V} {u v:Value} (ry:RelV y u) (rx:RelV x v) (fy:pF y=true) (fx:pF x=true):SeqAt.EqAt A s u v (HE y x):=by
 cases y with
 | dR =>
  cases ry;cases x with
  | dR=>cases rx;exact SeqAt.EqAt.same _
  | bl b=>cases rx;exact SeqAt.EqAt.none_bool b
  | int b=>obtain ⟨t,rfl⟩:=rx;exact SeqAt.EqAt.none_int b t
  | str b=>obtain ⟨t,rfl⟩:=rx;exact SeqAt.EqAt.none_str b t
  | _=>exact absurd (show false=true from fx) Bool.false_ne_true
 | bl a =>
  cases ry;cases x with
  | dR=>cases rx;exact SeqAt.EqAt.bool_none a
  | bl b=>cases rx;exact SeqAt.EqAt.bool_bool a b
  | int b=>obtain ⟨t,rfl⟩:=rx;exact SeqAt.EqAt.bool_int a b t
  | str b=>obtain ⟨t,rfl⟩:=rx;exact SeqAt.EqAt.bool_str a b t
  | _=>exact absurd (show false=true from fx) Bool.false_ne_true
 | int a =>
  obtain ⟨t',rfl⟩:=ry;cases x with
  | dR=>cases rx;exact SeqAt.EqAt.int_none a t'
  | bl b=>cases rx;exact SeqAt.EqAt.int_bool a t' b
  | int b=>obtain ⟨t,rfl⟩:=rx;exact SeqAt.EqAt.int_int a t' b t
  | str b=>obtain ⟨t,rfl⟩:=rx;exact SeqAt.EqAt.int_str a t' b t
  | _=>exact absurd (show false=true from fx) Bool.false_ne_true
 | str a =>
  obtain ⟨t',rfl⟩:=ry;cases x with
  | dR=>cases rx;exact SeqAt.EqAt.str_none a t'
  | bl b=>cases rx;exact SeqAt.EqAt.str_bool a t' b
  | int b=>obtain ⟨t,rfl⟩:=rx;exact SeqAt.EqAt.str_int a t' b t
  | str b=>obtain ⟨t,rfl⟩:=rx;exact SeqAt.EqAt.str_str a t' b t
  | _=>exact absurd (show false=true from fx) Bool.false_ne_true
 | _=>exact absurd (show false=true from fy) Bool.false_ne_true
noncomputable def J5 (x:V) (u:Value):Bool:=match u with
 | .none=>HE .dR x
 | .bool b=>HE (.bl b) x
 | .int i _=>HE (.int i) x
 | .str z _=>HE (.str z) x
 | _=>false
theorem HF {x y:V} {u:Value} (r:RelV y u) (f:pF y=true):J5 x u=HE y x:=by
 cases y with
 | dR=>cases r;rfl
 | bl b=>cases r;rfl
 | int i=>obtain ⟨t,rfl⟩:=r;rfl
 | str z=>obtain ⟨t,rfl⟩:=r;rfl
 | _=>exact absurd (show false=true from f) Bool.false_ne_true
theorem Ab {x:V}:∀ {xs:List V} {us:List Value},bB xs us→xs.all pF=true→us.any (J5 x)=xs.any fun y=>HE y x
 | _,_,.nil,_=>rfl
 | y::xs,u::us,.cons r t,f=>by
  rw [List.all_cons,Bool.and_eq_true] at f;rw [List.any_cons,List.any_cons,HF r f.1,Ab t f.2]
theorem xh {A:Around} {s:Shared} {x:V} {v:Value} (rx:RelV x v) (fx:pF x=true):∀ {xs:List V} {us:List Value},bB xs us→xs.all pF=true→∀ u∈us,SeqAt.EqAt A s u v (J5 x u)
 | _,_,.nil,_=>fun u hu=>by cases hu
 | y::xs,u::us,.cons r t,f=>fun u' hu=>by
  rw [List.all_cons,Bool.and_eq_true] at f;rcases List.mem_cons.mp hu with rfl | hu
  ·rw [HF r f.1];exact Mf r rx f.1 fx
  ·exact xh rx fx t f.2 u' hu
noncomputable def FJ (x:V) (xs:List V):Bool:=xs.any fun y=>HE y x
noncomputable def UG (K:PySem.W.Frag) (neg:Bool):R2:=fun x y H Q=>∃ p xs,y=.ref p∧(bU K H p xs∨vi K H p xs)∧pF x=true∧xs.all pF=true∧Q (.bl (if neg then !FJ x xs else FJ x xs)) H
theorem qH:pC X (compareOp .In) (UG X.K false):=by
 intro pins s σ H x y v u Q I rx ry h;obtain ⟨p,xs,rfl,hq,fx,fs,q⟩:=h;cases ry;rcases hq with hq | hq
 ·obtain ⟨its,r,pl,hz⟩:=I.list hq;refine SeqAt.in_listAt (J5 x) pl.isList (fun w hw=>xh rx fx r fs w (by simpa using hw)) ⟨.bl _,H,I,rfl,?_⟩;rw [show its.toArray.any (J5 x)=its.any (J5 x) by simp,Ab r fs];exact q
 ·obtain ⟨its,r,pl,hz⟩:=I.tuple hq;refine SeqAt.in_tupleAt (J5 x) pl (fun w hw=>xh rx fx r fs w (by simpa using hw)) ⟨.bl _,H,I,rfl,?_⟩;rw [show its.toArray.any (J5 x)=its.any (J5 x) by simp,Ab r fs];exact q
theorem b9:rq X (.builtin "len") (fun xs H Q=>∃ p ys,xs=[.ref p]∧(bU X.K H p ys∨vi X.K H p ys)∧Q (.int ys.length) H):=by
 intro pins s σ H xs us Q I r h;obtain ⟨p,ys,rfl,hq,q⟩:=h;obtain ⟨u,rfl,rx⟩:=vals1 r;cases rx;have hn:=z8;rcases hq with hq | hq
 ·obtain ⟨its,r',pl,hz⟩:=I.list hq;have hlen:=r'.length;exact Calls.call_len_list pl.isList (by simp only [List.size_toArray] <;> omega) ⟨.int ys.length,H,I.tok _,⟨s.toks+1,by rw [List.size_toArray,hlen]⟩,q⟩
 ·obtain ⟨its,r',pl,hz⟩:=I.tuple hq;have hlen:=r'.length;exact len_tuple pl (by simp only [List.size_toArray] <;> omega) ⟨.int ys.length,H,I.tok _,⟨s.toks+1,by rw [List.size_toArray,hlen]⟩,q⟩
theorem Ac:rq X (.type "list") (fun xs H Q=>∃ p ys,xs=[.ref p]∧(bU X.K H p ys∨vi X.K H p ys)∧∀ l,H l=none→Q (.ref l) (upd H l (.lst ys))):=by
 intro pins s σ H xs us Q I r h;obtain ⟨p,ys,rfl,hq,q⟩:=h;obtain ⟨u,rfl,rx⟩:=vals1 r;cases rx;have fin:∀ (its:List Value),bB ys its→ys.length≤sizeLine→∀ (h':Heap) (c':Nat),(∀ b o',s.heap.get? b=some o'→h'.get? b=some o') →
   h'.get? s.heap.objs.size=some { cls:=.type "list",dict:=none,data:=.seq its.toArray c',slots:=#[] }→EP X pins σ Q (.ref s.heap.objs.size) { s with heap:=h' }:=fun its r' hz h' c' kp e =>
  ⟨.ref s.heap.objs.size,_,I.laid (t':=s.toks) kp (Nat.le_refl _) (show fQ X.prog X.w _ h' _ (.lst ys) from ⟨hz,its,c',r',e⟩),rfl,q _ (I.dz.fresh (Nat.le_refl _))⟩
 rcases hq with hq | hq
 ·obtain ⟨its,r',pl,hz⟩:=I.list hq;have hlen:=r'.length;obtain ⟨o,ho,hc,n,hd⟩:=pl.isList;exact call_list_seq p (.inl rfl) ho hc hd (fun h' c' kp e=>fin its r' hz h' c' kp e) (by simp only [List.size_toArray] <;> omega)
 ·obtain ⟨its,r',pl,hz⟩:=I.tuple hq;have hlen:=r'.length;obtain ⟨o,ho,hc,n,hd⟩:=pl;exact call_list_seq p (.inr rfl) ho hc hd (fun h' c' kp e=>fin its r' hz h' c' kp e) (by simp only [List.size_toArray] <;> omega)
noncomputable def tyV (K:PySem.W.Frag) (T:String) (x:V) (H:Hp):Prop:=match x with
 | .str _=>T = "str"
 | .int _=>T = "int"
 | .ref p=>(T = "list"∧∃ xs,bU K H p xs)∨(T = "tuple"∧∃ o,K.lookup p=some o∧o.cls=.type "tuple"∧o.dict=none) ∨
   (T = "dict"∧((∃ a8,H p=some (.dK a8))∨∃ a8,H p=some (.dT a8)))∨(T = "set"∧∃ S n,H p=some (.set S n))
 | _=>False
theorem HG {pins:List (Addr×Obj)} {σ:St} {H:Hp} {s:Shared} {T:String} {x:V} {v:Value} (I:Inv X pins σ H s) (r:RelV x v) (ty:tyV X.K T x H) :
  s.TypeIs v T∧∀ a,v=.ref a→∃ ob,s.heap.get? a=some ob∧ob.dict=none:=by
 cases x with
 | str z =>
  obtain ⟨t,rfl⟩:=r;cases (show T = "str" from ty);exact ⟨typeIs_str s z t,fun _ e=>nomatch e⟩
 | int i =>
  obtain ⟨t,rfl⟩:=r;cases (show T = "int" from ty);exact ⟨typeIs_int s i t,fun _ e=>nomatch e⟩
 | ref p =>
  cases r;rcases ty with ⟨rfl,xs,hq⟩ | ⟨rfl,o,hk,hc,hd⟩ | ⟨rfl,hk⟩ | ⟨rfl,S,n,hk⟩
  ·obtain ⟨its,_,pl,_⟩:=I.list hq;refine ⟨pl.isList.typeIs,fun a e=>?_⟩;cases e;obtain ⟨o,n,e,c,hd,_⟩:=pl;exact ⟨o,e,hd⟩
  ·refine ⟨⟨o,I.CV p o hk,hc⟩,fun a e=>?_⟩;cases e;exact ⟨o,I.CV _ o hk,hd⟩
  ·have z:∃ o,s.heap.get? p=some o∧o.ExactDict:=by
    rcases hk with ⟨a8,hk⟩ | ⟨a8,hk⟩
    ·obtain ⟨_,_,_,_,o,_,_,e,ex,_⟩:=I.dz p _ hk;exact ⟨o,e,ex⟩
    ·obtain ⟨_,_,_,_,o,_,_,e,ex,_⟩:=I.dz p _ hk;exact ⟨o,e,ex⟩
   obtain ⟨o,e,ex⟩:=z;refine ⟨⟨o,e,ex.1⟩,fun a e2=>?_⟩;cases e2;exact ⟨o,e,ex.2.1⟩
  ·obtain ⟨o,_,_,_,e,ex,_⟩:=I.dz p _ hk;refine ⟨⟨o,e,ex.1⟩,fun a e2=>?_⟩;cases e2;exact ⟨o,e,ex.2.1⟩
 | _=>exact False.elim ty
noncomputable def tBM0 (K:PySem.W.Frag) (T:String) (r:V→List V→Hp→VK→Prop) (to:TE):TE:=fun σ H Q=>to σ H fun x H1=>tyV K T x H1∧r x [] H1 Q
noncomputable def Ng (K:PySem.W.Frag) (T:String) (r:V→List V→Hp→VK→Prop) (to:TE) (t:TA):TE:=fun σ H Q=>to σ H fun x H1=>tyV K T x H1∧t σ H1 fun xs H2=>r x xs H2 Q
variable {o e:Expr} {es:List Expr} {to:TE} {t:TA} {name:Str} {apos tu:Pos} {T id:String} {r:V→List V→Hp→VK→Prop}
theorem Mg (pa:PlainAttrs T) (slot:Slot T name id) (QE:typeOf (.builtin id)=pure (.type "method_descriptor")) (hm:Ph X id r) (ho:PE X o to)
  (BG:attributeBase o name X.env (eval o X.env)=eval o X.env:=by rfl) (BH:(apos.endLine == tu.line)=true:=by rfl):PE X (.Call (.Attribute o name apos) [] [] tu) (tBM0 X.K T r to):=by
 intro pins s σ H Q I h;refine wpAny_Call_method0_late BG BH (dP (ho pins s σ H _ I h) fun v s1 ⟨x,H1,I1,r1,ty,q1⟩=>?_);obtain ⟨h1,h2⟩:=HG I1 r1 ty;exact ⟨T,id,pa,slot,QE,h1,h2,Calls.callWith_builtin rfl (PySem.evalArgs_none (hm pins s1 σ H1 x [] v [] Q I1 r1 .nil q1))⟩
theorem xi (pa:PlainAttrs T) (slot:Slot T name id) (QE:typeOf (.builtin id)=pure (.type "method_descriptor")) (hm:Ph X id r) (ho:PE X o to) (ha:PA X (e::es) t)
  (BG:attributeBase o name X.env (eval o X.env)=eval o X.env:=by rfl)
  (QF:((backTo tu (starEach (e::es) X.env)).all (fun x=>!x.1)&&(backToKw tu (keywordEach [] X.env)).all (fun x=>x.1.isSome)
   && decide ((e::es).length+([]:List Keyword).length+(if ([]:List Keyword).isEmpty then 0 else 1) < 30))=true:=by rfl)
  (BH:(apos.endLine == tu.line)=true:=by rfl) (hs:starEach (e::es) X.env=(false,eval e X.env)::starEach es X.env:=by rfl) (Dc:(backTo tu (starEach es X.env)).any (·.1)=false:=by rfl) :
  PE X (.Call (.Attribute o name apos) (e::es) [] tu) (Ng X.K T r to t):=by
 intro pins s σ H Q I h;refine wpAny_Call_method_late BG QF BH rfl (dP (ho pins s σ H _ I h) fun v s1 ⟨x,H1,I1,r1,ty,q1⟩=>?_);obtain ⟨h1,h2⟩:=HG I1 r1 ty;refine ⟨T,id,pa,slot,QE,h1,h2,?_⟩;have hA:=ha tu pins s1 σ H1 _ I1 q1;rw [hs] at hA ⊢;refine Calls.callWith_builtin (by show (false || (backTo tu (starEach es X.env)).any (·.1))=false;rw [Dc] <;> rfl) (Calls.evalArgs_plain ?_);exact dP hA fun us s2 ⟨vs,H2,I2,r2,q2⟩=>hm pins s2 σ H2 x vs v us Q I2 r1 r2 q2
end
noncomputable def Sr (X:Cx) (id:String) (r:V→List V→Hp→VK→Prop):Prop :=
 ∀ (pins:List (Addr×Obj)) (s:Shared) (σ:St) (H:Hp) (x:V) (xs:List V) (v:Value) (us:List Value) (Q:VK),Inv X pins σ H s→RelV x v→bB xs us→r x xs H Q →
  wpAny (model X.prog X.w) X.A (call (.builtin id) (v::us)) (EP X pins σ Q) X.xe s
theorem bB.one:∀ {x:V} {us:List Value},bB [x] us→∃ u,us=[u]∧RelV x u
 | _,_,.cons r .nil=>⟨_,rfl,r⟩
theorem bB.rep {xs:List V} {us:List Value} (h:bB xs us):∀ k:Nat,bB (List.replicate k xs).flatten (List.replicate k us).flatten
 | 0=>.nil
 | k+1=>by
  rw [List.replicate_succ,List.replicate_succ,List.flatten_cons,List.flatten_cons];exact bB.append h (bB.rep h k)
theorem foldl_rep (its:List Value):∀ (k:Nat) (acc:List Value),
  List.foldl (fun x1 x2=>x1++x2) acc.toArray (List.replicate k its.toArray)=(acc++(List.replicate k its).flatten).toArray
 | 0,acc=>by simp
 | k+1,acc=>by
  have e:acc.toArray++its.toArray=(acc++its).toArray:=by simp
  have e2:(acc++its)++(List.replicate k its).flatten=acc++(List.replicate (k+1) its).flatten:=by
   rw [List.replicate_succ,List.flatten_cons,List.append_assoc]
  rw [← e2,← foldl_rep its k (acc++its),← e,List.replicate_succ,List.foldl_cons]
section
variable {X:Cx} {pins:List (Addr×Obj)} {σ:St} {H:Hp} {s:Shared} {l b:Addr} {xs ys zs:List V}
theorem Inv.N1 {its nu:List Value} {n:Nat} {f:Array Value→Array Value} {t':Nat} (I:Inv X pins σ H s) (hH:H l=some (.lst xs))
  (e:s.heap.get? l=some { cls:=.type "list",data:=.seq its.toArray n }) (hf:f its.toArray=nu.toArray) (hv:bB ys nu) (hz:ys.length≤sizeLine) :
  Inv X pins σ (upd H l (.lst ys)) { s with heap:=s.heap.update l (Obj.mapSeq f),toks:=t' }:=by
 have q:=PySem.IsL.update e f;rw [hf] at q;refine I.write (x:=l) (e:=l) (by rw [hH];exact trivial) (.inl rfl) (fun b' u hb hu=>(Heap.get?_update_other s.heap (Obj.mapSeq f) (Ne.symm hb)).trans hu) ⟨_,q⟩ ?_;exact ⟨hz,nu,_,hv,q⟩
theorem Inv.N2 {its:List Value} {t':Nat} (I:Inv X pins σ H s) (hv:bB ys its) (hz:ys.length≤sizeLine) :
  Inv X pins σ (upd H s.heap.objs.size (.lst ys)) { s with heap:=s.heap.push { cls:=.type "list",data:=.seq its.toArray },toks:=t' } :=
 I.laid (fun _ _ q=>Heap.get?_push_of_some _ q) (Nat.le_refl _) ⟨hz,its,0,hv,Heap.get?_push_size _ rfl⟩
theorem Inv.fresh (I:Inv X pins σ H s):H s.heap.objs.size=none:=I.dz.fresh (Nat.le_refl _)
theorem Inv.FK (I:Inv X pins σ H s) (hH:H l=some (.lst xs)):xs.length≤sizeLine∧∃ (its:List Value) (n:Nat),bB xs its∧xs.length=its.length∧s.heap.get? l=some { cls:=.type "list",data:=.seq its.toArray n }:=by
 obtain ⟨z,its,n,r,e⟩:=I.dz l _ hH;exact ⟨z,its,n,r,r.length,e⟩
theorem BI {n:Nat} (h:n≤sizeLine):Builtin.List.listTooLong n=false:=by
 unfold Builtin.List.listTooLong;exact decide_eq_false (by omega)
end
section
variable {X:Cx}
noncomputable def qI:V→List V→Hp→VK→Prop:=fun x vs H Q=>∃ l xs y,x=.ref l∧vs=[y]∧H l=some (.lst xs)∧xs.length < sizeLine∧Q .dR (upd H l (.lst (xs++[y])))
theorem nv:Sr X "list.append" qI:=by
 intro pins s σ H x vs v us Q I rx rv h;obtain ⟨l,xs,y,rfl,rfl,hH,hz,q⟩:=h;cases rx;obtain ⟨u,rfl,ru⟩:=rv.one;obtain ⟨z,its,n,r,hl,e⟩:=I.FK hH;refine call_meets F.slot_list_append ⟨_,e,rfl⟩ F.entry_list_append (F.args_list_append_2 _ _) (PySem.list_append l its.toArray n u (by rw [List.size_toArray];omega)) ⟨e,?_⟩;refine ⟨.dR,_,I.N1 (nu:=its++[u]) hH e (by simp) (r.append (.cons ru .nil)) ?_,rfl,q⟩;rw [List.length_append,List.length_singleton];omega
noncomputable def EF:V→List V→Hp→VK→Prop:=fun x vs H Q=>∃ l b xs zs,x=.ref l∧vs=[.ref b]∧H l=some (.lst xs)∧H b=some (.lst zs)∧xs.length+zs.length≤sizeLine∧Q .dR (upd H l (.lst (xs++zs)))
theorem FL:Sr X "list.extend" EF:=by
 intro pins s σ H x vs v us Q I rx rv h;obtain ⟨l,b,xs,zs,rfl,rfl,hH,hB,hz,q⟩:=h;cases rx;obtain ⟨u,rfl,ru⟩:=rv.one;cases ru;obtain ⟨z,its,n,r,hl,e⟩:=I.FK hH;obtain ⟨z2,xg,n2,r2,UH,e2⟩:=I.FK hB;have hsz:its.toArray.size+xg.toArray.size≤sizeLine:=by rw [List.size_toArray,List.size_toArray];omega
 have HH:¬ (!its.toArray.isEmpty&&Builtin.List.listTooLong (its.toArray.size+xg.toArray.size))=true:=by
  rw [BI hsz,Bool.and_false];exact Bool.false_ne_true
 refine call_meets F.slot_list_extend ⟨_,e,rfl⟩ F.entry_list_extend (F.args_list_extend_2 _ _)
  (AutoSeq1.list_extend_list_list_0 l its.toArray n b xg.toArray n2 HH (by rw [List.size_toArray];omega) (by omega)) ⟨e,e2,?_⟩
 refine ⟨.dR,_,I.N1 (nu:=its++xg) hH e (by simp) (r.append r2) ?_,rfl,q⟩;rw [List.length_append];omega
noncomputable def QG:R2:=fun x y H Q=>∃ l b xs zs,x=.ref l∧y=.ref b∧H l=some (.lst xs)∧H b=some (.lst zs)∧xs.length+zs.length≤sizeLine∧∀ p,H p=none→Q (.ref p) (upd H p (.lst (xs++zs)))
theorem r8:pC X (binaryOp .Add) QG:=by
 intro pins s σ H x y v u Q I rx ry h;obtain ⟨l,b,xs,zs,rfl,rfl,hH,hB,hz,q⟩:=h;cases rx;cases ry;obtain ⟨z,its,n,r,hl,e⟩:=I.FK hH;obtain ⟨z2,xg,n2,r2,UH,e2⟩:=I.FK hB;refine PySem.P.add_list e e2 ?_ (by rw [List.size_toArray,List.size_toArray];omega);have ea:its.toArray++xg.toArray=(its++xg).toArray:=by simp
 rw [ea];exact ⟨.ref _,_,I.N2 (t':=s.toks) (r.append r2) (by rw [List.length_append];omega),rfl,q _ I.fresh⟩
noncomputable def QH:R2:=fun x y H Q=>∃ l k xs,x=.ref l∧y=.int k∧H l=some (.lst xs)∧-(2 ^ 63)≤k∧k < 2 ^ 63∧xs.length*k.toNat≤sizeLine ∧
 ∀ p,H p=none→Q (.ref p) (upd H p (.lst (List.replicate k.toNat xs).flatten))
theorem len_rep {α:Type} (xs:List α) (k:Nat):(List.replicate k xs).flatten.length=k*xs.length:=by
 induction k with
 | zero=>simp
 | succ k ih=>rw [List.replicate_succ,List.flatten_cons,List.length_append,ih,Nat.succ_mul,Nat.add_comm]
theorem HI:pC X (binaryOp .Mult) QH:=by
 intro pins s σ H x y v u Q I rx ry h;obtain ⟨l,k,xs,rfl,rfl,hH,h1,h2,hz,q⟩:=h;cases rx;obtain ⟨t,rfl⟩:=ry;obtain ⟨z,its,n,r,hl,e⟩:=I.FK hH;have hlen:its.toArray.size*k.toNat≤sizeLine:=by rw [List.size_toArray,← hl];exact hz
 have QI:¬ its.toArray.size*k.toNat > (2 ^ 63 - 1) / 8:=by
  have:(sizeLine:Nat)≤(2 ^ 63 - 1) / 8:=by decide
  omega
 have QJ:¬ (!Builtin.List.listFitsIndex k)=true:=by
  rw [fitsIndex_both h1 h2];exact Bool.false_ne_true
 have HH:¬ Builtin.List.listTooLong (its.toArray.size*k.toNat)=true:=by
  rw [BI hlen];exact Bool.false_ne_true
 have QK:List.foldl (fun x1 x2=>x1++x2) #[] (List.replicate (if its.toArray.isEmpty=true then 0 else k.toNat) its.toArray)=(List.replicate k.toNat its).flatten.toArray:=by
  have f0:∀ m:Nat,List.foldl (fun x1 x2=>x1++x2) #[] (List.replicate m its.toArray)=(List.replicate m its).flatten.toArray:=fun m=>by
   have:=foldl_rep its m [];rw [List.nil_append] at this;exact this
  rw [f0];cases its with
  | nil=>simp
  | cons a r'=>rw [if_neg (by simp)]
 refine wpAny_binaryOp_repeat_ref (T:="list") (U:="int") (by decide) ⟨_,e,rfl⟩ (fun s'=>typeIs_int s' k t) noFill_list_mul F.fills_int_mul F.slot_int_rmul repeat_list F.slot_int_index.lookup
  (call_meets F.slot_int_rmul (typeIs_int s k t) F.entry_int_rmul (F.args_int_rmul_2 _ _) (int___rmul___int_list k t l its.toArray n)
   ⟨e,rfl,⟨_,e,rfl⟩,call_meets F.slot_list_mul ⟨_,e,rfl⟩ F.entry_list_mul (F.args_list_mul_2 _ _) (AutoListH.list___mul___list_int_3 l its.toArray n k t QJ QI HH) ⟨e,?_⟩⟩)
 rw [QK];exact ⟨.ref _,_,I.N2 (t':=s.toks) (r.rep k.toNat) (by rw [len_rep,Nat.mul_comm];exact hz),rfl,q _ I.fresh⟩
end
section
variable {prog:Program} {w:World} {A:Around} {E:Value→Shared→Prop} {s:Shared}
end
section
variable {X:Cx}
end
theorem bB.ints:∀ {ns:List Int} {us:List Value},bB (ns.map V.int) us→IntsAre us ns
 | [],us,h=>by
  rw [List.map_nil] at h;cases h;exact IntsAre.nil
 | n::ns,us,h=>by
  rw [List.map_cons] at h;cases h with
  | cons r t =>
   obtain ⟨k,rfl⟩:=r;exact IntsAre.cons n k (bB.ints t)
theorem Ad:∀ {us:List Value} {ns:List Int},IntsAre us ns→bB (ns.map V.int) us
 | _,_,.nil=>by rw [List.map_nil];exact Paired.nil
 | _,_,.cons n t h=>by rw [List.map_cons];exact Paired.cons (show RelV (V.int n) (Value.int n t) from ⟨t,rfl⟩) (Ad h)
theorem bB.QL:∀ {bs:List Bool} {us:List Value},bB (bs.map V.bl) us→us=bs.map Value.bool
 | [],us,h=>by
  rw [List.map_nil] at h;cases h;rfl
 | b::bs,us,h=>by
  rw [List.map_cons] at h;cases h with
  | cons r t =>
   cases r;rw [bB.QL t,List.map_cons]
theorem bB.Mh {a:Addr} {us:List Value} (r:bB [V.ref a] us):us=[Value.ref a]:=by
 cases r with
 | cons r t =>
  cases t;cases r;rfl
section
variable {prog:Program} {w:World} {A:Around} {E:Value→Shared→Prop} {s:Shared} {l:Addr} {its:List Value} {ns:List Int} {Q:Value→Shared→Prop}
theorem J6 (hh:A.handled=none) (hl:s.heap.IsList l its.toArray) (hi:IntsAre its ns)
  (h:∀ h' tk t',(∀ b o,s.heap.get? b=some o→h'.get? b=some o)→Q (.int ns.sum t') { s with heap:=h',toks:=tk }):wpAny (model prog w) A (call (.builtin "sum") [.ref l]) Q E s:=by
 obtain ⟨xs,e⟩:=hi.allInts.items;have hn:numsOf (intItems xs).toList=ns:=by rw [← e];exact hi.numsOf
 rw [nums_intItems] at hn;rw [e] at hl;refine PySem.sum_intListG hh hl fun h' tk t' hk=>?_;have:=h h' tk t' hk;rw [preSum_eq,List.take_of_length_le (by simp),hn];exact this
end
section
variable {X:Cx}
noncomputable def QM (K:PySem.W.Frag):List V→Hp→VK→Prop:=fun vs H Q=>∃ (a:Addr) (ns:List Int),vs=[V.ref a]∧bU K H a (ns.map V.int)∧Q (.int ns.sum) H
theorem HJ (hc:X.calm=true):rq X (.builtin "sum") (QM X.K):=by
 intro pins s σ H vs us Q I r h;obtain ⟨a,ns,rfl,hs,q⟩:=h;obtain ⟨its,rv,hl,_⟩:=I.list hs;rw [bB.Mh r];exact J6 (I.ok.hd hc) hl.isList rv.ints fun h' tk t' hk=>⟨.int _,H,I.kept hk,⟨_,rfl⟩,q⟩
end
section
variable {X:Cx}
end
section
variable {X:Cx}
end
theorem BJ {prog:Program} {w:World} {A:Around} {E:Value→Shared→Prop} {s:Shared} {l:Addr} {items:Array Value} {Q:Value→Shared→Prop} (hl:s.heap.IsList l items)
  (h:∀ nr:Shared,nr={ s with heap:=s.heap.push { cls:=.type "list_iterator",data:=.fields #[.ref l,.int 0 0] } } →
   (nr.heap.IsListIter s.heap.objs.size l 0∧nr.heap.IsList l items)→l≠s.heap.objs.size→Q (.ref s.heap.objs.size) nr):wpAny (model prog w) A (pyIter (.ref l)) Q E s:=by
 have iD:l < s.heap.objs.size:=by obtain ⟨_,e,_⟩:=hl;exact Heap.lt_size e
 exact wpAny_pyIter_list hl (h _ rfl ⟨⟨_,Heap.get?_push_size _ rfl,rfl,rfl⟩,hl.push _⟩ (Nat.ne_of_lt iD))
theorem vq {prog:Program} {w:World} {A:Around} {bs:List Bool} {its:List Value} (e:its=bs.map Value.bool) :
  TruthOf prog w A (fun i v=>its.toArray[i]?=some v) (fun i=>bs.getD i false):=fun i v s Q E hv hq=>by
 have Pe:its[i]?=some v:=by simpa using hv
 rw [e,List.getElem?_map] at Pe;obtain ⟨b,hb,rfl⟩:=Option.map_eq_some_iff.mp Pe;have hg:bs.getD i false=b:=by rw [List.getD_eq_getElem?_getD,hb] <;> rfl
 have Fz:Q (bs.getD i false) s:=hq;rw [hg] at Fz;exact wpAny_truthy_bool Fz
theorem any_range:∀ bs:List Bool,(List.range bs.length).any (fun i=>bs.getD i false)=bs.any id
 | []=>rfl
 | b::bs=>by
  rw [List.length_cons,List.range_succ_eq_map,List.any_cons,List.any_map,List.any_cons,← any_range bs];all_goals rfl
theorem all_range:∀ bs:List Bool,(List.range bs.length).all (fun i=>bs.getD i false)=bs.all id
 | []=>rfl
 | b::bs=>by
  rw [List.length_cons,List.range_succ_eq_map,List.all_cons,List.all_map,List.all_cons,← all_range bs];all_goals rfl
section
variable {X:Cx}
noncomputable def QN (K:PySem.W.Frag):List V→Hp→VK→Prop:=fun vs H Q=>∃ (a:Addr) (bs:List Bool),vs=[V.ref a]∧bU K H a (bs.map V.bl)∧Q (.bl (bs.any id)) H
noncomputable def N3 (K:PySem.W.Frag):List V→Hp→VK→Prop:=fun vs H Q=>∃ (a:Addr) (bs:List Bool),vs=[V.ref a]∧bU K H a (bs.map V.bl)∧Q (.bl (bs.all id)) H
theorem Mi (hc:X.calm=true):rq X (.builtin "any") (QN X.K):=by
 intro pins s σ H vs us Q I r h;obtain ⟨a,bs,rfl,hs,q⟩:=h;obtain ⟨its,rv,hl,_⟩:=I.list hs;rw [bB.Mh r];have hb:=rv.QL;refine call_any_walk (BJ hl.isList fun nr e2 st kW=>?_);subst e2;refine ⟨_,_,_,_,_,_,_,rfl,Walks.list (A:=X.A.in1) (I.ok.hd hc) _ a kW its.toArray,st,vq hb,fun h' tk hk=>?_⟩;refine ⟨.bl _,H,I.kept fun b o eo=>hk b o (fun xj=>?_) (Heap.get?_push_of_some _ eo),?_,q⟩
 ·rcases List.mem_cons.mp xj with e1 | xj
  ·exact absurd (e1▸Heap.lt_size eo) (Nat.lt_irrefl _)
  ·cases xj
 ·show Value.bool _=Value.bool _;rw [← any_range,hb,List.size_toArray,List.length_map]
theorem Ae (hc:X.calm=true):rq X (.builtin "all") (N3 X.K):=by
 intro pins s σ H vs us Q I r h;obtain ⟨a,bs,rfl,hs,q⟩:=h;obtain ⟨its,rv,hl,_⟩:=I.list hs;rw [bB.Mh r];have hb:=rv.QL;refine call_all_walk (BJ hl.isList fun nr e2 st kW=>?_);subst e2;refine ⟨_,_,_,_,_,_,_,rfl,Walks.list (A:=X.A.in1) (I.ok.hd hc) _ a kW its.toArray,st,vq hb,fun h' tk hk=>?_⟩;refine ⟨.bl _,H,I.kept fun b o eo=>hk b o (fun xj=>?_) (Heap.get?_push_of_some _ eo),?_,q⟩
 ·rcases List.mem_cons.mp xj with e1 | xj
  ·exact absurd (e1▸Heap.lt_size eo) (Nat.lt_irrefl _)
  ·cases xj
 ·show Value.bool _=Value.bool _;rw [← all_range,hb,List.size_toArray,List.length_map]
end
mutual
inductive Dp (K:PySem.W.Frag) (H:Hp):V→PyData→Prop
 | dR:Dp K H .dR .none
 | bl (b:Bool):Dp K H (.bl b) (.bool b)
 | int (i:Int):Dp K H (.int i) (.int i)
 | str (x:Str):Dp K H (.str x) (.str x)
 | lst {a:Addr} {xs:List V} {ds:List PyData}:bU K H a xs→zy K H xs ds→Dp K H (.ref a) (.list ds)
 | tup {a:Addr} {xs:List V} {ds:List PyData}:vi K H a xs→zy K H xs ds→Dp K H (.ref a) (.tuple ds)
inductive zy (K:PySem.W.Frag) (H:Hp):List V→List PyData→Prop
 | nil:zy K H [] []
 | cons {v:V} {vs:List V} {d:PyData} {ds:List PyData}:Dp K H v d→zy K H vs ds→zy K H (v::vs) (d::ds)
end
section
variable {X:Cx} {pins:List (Addr×Obj)} {σ:St} {H:Hp} {s:Shared}
mutual
theorem Dp.reads (I:Inv X pins σ H s):∀ (d:PyData) (v:V) (u:Value),Dp X.K H v d→RelV v u→∃ as,Reads s.heap u d as
 | .none,_,_,h,r=>by
  cases h;cases r;exact ⟨_,Reads.none⟩
 | .bool b,_,_,h,r=>by
  cases h;cases r;exact ⟨_,Reads.bool b⟩
 | .int i,_,_,h,r=>by
  cases h;obtain ⟨t,rfl⟩:=r;exact ⟨_,Reads.int i t⟩
 | .str x,_,_,h,r=>by
  cases h;obtain ⟨t,rfl⟩:=r;exact ⟨_,Reads.str x t⟩
 | .list ds,_,_,h,r=>by
  cases h with
  | lst hs ha =>
   cases r;obtain ⟨its,rv,⟨o,n,ho,hc,_,hd⟩,_⟩:=I.list hs;obtain ⟨as,hr⟩:=Dp.readsAll I ds _ its ha rv;exact ⟨_,Reads.list ho hc hd hr⟩
 | .tuple ds,_,_,h,r=>by
  cases h with
  | tup hs ha =>
   cases r;obtain ⟨its,rv,⟨o,ho,hc,n,hd⟩,_⟩:=I.tuple hs;obtain ⟨as,hr⟩:=Dp.readsAll I ds _ its ha rv;exact ⟨_,Reads.tuple ho hc hd hr⟩
 | .dict _,_,_,h,_=>by cases h
theorem Dp.readsAll (I:Inv X pins σ H s):∀ (ds:List PyData) (vs:List V) (us:List Value),zy X.K H vs ds→bB vs us→∃ as,ReadsAll s.heap us ds as
 | [],_,_,h,r=>by
  cases h;cases r;exact ⟨_,ReadsAll.nil⟩
 | d::ds,_,_,h,r=>by
  cases h with
  | cons h1 h2 =>
   cases r with
   | cons r1 r2 =>
    obtain ⟨as,q1⟩:=Dp.reads I d _ _ h1 r1;obtain ⟨bs,q2⟩:=Dp.readsAll I ds _ _ h2 r2;exact ⟨_,ReadsAll.cons q1 q2⟩
end
end
section
variable {X:Cx}
noncomputable def QO (K:PySem.W.Frag):R2:=fun x y H Q=>∃ d e,Dp K H x d∧Dp K H y e∧SeqAt.shaped d=true∧SeqAt.shaped e=true∧Q (.bl (PyData.eqv d e)) H
theorem Mj (hu:X.A.units+64 < cLine):pC X (compareOp .Eq) (QO X.K):=by
 intro pins s σ H x y v u Q I rx ry h;obtain ⟨d,e,hd,he,sd,se,q⟩:=h;obtain ⟨as,r1⟩:=Dp.reads I d x v hd rx;obtain ⟨bs,r2⟩:=Dp.reads I e y u he ry;exact SeqAt.compareEq_shaped r1 r2 sd se hu ⟨.bl _,H,I,rfl,q⟩
end
noncomputable abbrev HK (h:Heap) (c:Addr) (v:Option Value):Prop:=h.IsCell c v
noncomputable def QP (scope sc:Scope):Scope :=
 { scope with names:=scope.names.map fun (n,k)=>if (k == .free&&sc.kind == .function&&sc.names.lookup n == some .cell) then (n,.cell) else (n,k) }
noncomputable def b7 (cells:List (Str×Addr)):List (Str×NameKind)→List (Str×Addr)→List (Str×Addr)
 | [],acc=>acc
 | (n,k)::r,acc=>if k == .free then b7 cells r ((n,(cells.lookup n).getD 0)::acc) else b7 cells r acc
theorem tw (env:Env) (f:Str×NameKind→List (Str×Addr)→Sem (ForInStep (List (Str×Addr))))
  (hf:∀ n k c,f (n,k) c=if k == .free then (do let a ← cellOf env n;pure (.yield ((n,a)::c))) else pure (.yield c)) :
  ∀ (names:List (Str×NameKind)) (acc:List (Str×Addr)),(∀ y∈names,y.2=.free→∃ c,env.cells.lookup y.1=some c)→forIn names acc f=pure (b7 env.cells names acc)
 | [],acc,_=>by rw [List.forIn_nil];rfl
 | (n,k)::r,acc,h=>by
  rw [List.forIn_cons,hf];have ih:=fun acc=>tw env f hf r acc fun y hy=>h y (List.mem_cons_of_mem _ hy);unfold b7;by_cases hk:(k == NameKind.free)=true
  ·rw [if_pos hk,if_pos hk];obtain ⟨c,hc⟩:=h (n,k) List.mem_cons_self (by simpa using hk);have e:cellOf env n=pure c:=by unfold cellOf;rw [hc]
   rw [e];have e2:(env.cells.lookup n).getD 0=c:=by rw [hc];rfl
   rw [e2];exact ih _
  ·rw [if_neg hk,if_neg hk];exact ih _
theorem xk {scope:Scope} {env:Env} (h:∀ y∈scope.names,y.2=.free→∃ c,env.cells.lookup y.1=some c):closureFor scope env=pure (b7 env.cells scope.names []):=by
 simp only [closureFor];rw [tw env _ (fun n k c=>rfl) scope.names [] h];rfl
theorem mem_lookup {α:Type}:∀ {l:List (Str×α)} {n:Str} {c:α},(n,c)∈l→∃ c',l.lookup n=some c'
 | (k,v)::r,n,c,h=>by
  rw [List.lookup_cons];cases hb:n == k with
  | true=>exact ⟨_,rfl⟩
  | false =>
   rcases List.mem_cons.mp h with e | h
   ·cases e;simp at hb
   ·exact mem_lookup h
theorem jS {cells:List (Str×Addr)}:∀ {names:List (Str×NameKind)} {acc:List (Str×Addr)} {n:Str} {c:Addr},(n,c)∈b7 cells names acc→(n,c)∈acc∨((n,.free)∈names∧c=(cells.lookup n).getD 0)
 | [],_,_,_,h=>.inl h
 | (m,k)::r,acc,n,c,h=>by
  unfold b7 at h;split at h
  ·rename_i hk;have hk:k=.free:=by simpa using hk
   rcases jS h with h | ⟨h1,h2⟩
   ·rcases List.mem_cons.mp h with e | h
    ·cases e;exact .inr ⟨hk▸List.mem_cons_self,rfl⟩
    ·exact .inl h
   ·exact .inr ⟨List.mem_cons_of_mem _ h1,h2⟩
  ·rcases jS h with h | ⟨h1,h2⟩
   ·exact .inl h
   ·exact .inr ⟨List.mem_cons_of_mem _ h1,h2⟩
theorem pG {cells:List (Str×Addr)}:∀ {names:List (Str×NameKind)} {acc:List (Str×Addr)} {p:Str×Addr},p∈acc→p∈b7 cells names acc
 | [],_,_,h=>h
 | (m,k)::r,acc,p,h=>by
  unfold b7;split
  ·exact pG (List.mem_cons_of_mem _ h)
  ·exact pG h
theorem lZ {cells:List (Str×Addr)}:∀ {names:List (Str×NameKind)} {acc:List (Str×Addr)} {n:Str},(n,.free)∈names→(n,(cells.lookup n).getD 0)∈b7 cells names acc
 | (m,k)::r,acc,n,h=>by
  unfold b7;rcases List.mem_cons.mp h with e | h
  ·cases e;exact pG List.mem_cons_self
  ·split
   ·exact lZ h
   ·exact lZ h
theorem ny:∀ {names:List (Str×NameKind)} {h:Heap} {acc:List (Str×Addr)} {x:Str} {c:Addr},(x,c)∈cellsFrom h.objs.size names acc →
  (x,c)∈acc∨((x,.cell)∈names∧h.objs.size≤c∧HK (pushCells h names) c none)
 | [],_,_,_,_,h=>.inl h
 | (n,k)::r,h,acc,x,c,hm=>by
  unfold cellsFrom at hm;unfold pushCells;split at hm
  ·rename_i hk;rw [if_pos hk];have hk:k=.cell:=by simpa using hk
   rw [← Heap.size_push h { cls:=.type "cell",data:=.cell none }] at hm;rcases ny hm with hm | ⟨h1,h2,h3⟩
   ·rcases List.mem_cons.mp hm with e | hm
    ·cases e;exact .inr ⟨hk▸List.mem_cons_self,Nat.le_refl _,_,pushCells_keeps r _ _ _ (Heap.get?_push_size _ rfl),rfl⟩
    ·exact .inl hm
   ·rw [Heap.size_push] at h2;exact .inr ⟨List.mem_cons_of_mem _ h1,Nat.le_of_succ_le h2,h3⟩
  ·rename_i hk;rw [if_neg hk];rcases ny hm with hm | ⟨h1,h2,h3⟩
   ·exact .inl hm
   ·exact .inr ⟨List.mem_cons_of_mem _ h1,h2,h3⟩
theorem qJ:∀ {names:List (Str×NameKind)} {n:Nat} {acc:List (Str×Addr)} {p:Str×Addr},p∈acc→p∈cellsFrom n names acc
 | [],_,_,_,h=>h
 | (m,k)::r,n,acc,p,h=>by
  unfold cellsFrom;split
  ·exact qJ (List.mem_cons_of_mem _ h)
  ·exact qJ h
theorem ur:∀ {names:List (Str×NameKind)} {n:Nat} {acc:List (Str×Addr)} {x:Str},(x,.cell)∈names→∃ c,(x,c)∈cellsFrom n names acc
 | (m,k)::r,n,acc,x,h=>by
  unfold cellsFrom;rcases List.mem_cons.mp h with e | h
  ·cases e;exact ⟨n,qJ List.mem_cons_self⟩
  ·split
   ·exact ur h
   ·exact ur h
theorem uu:∀ {names:List (Str×NameKind)} {h:Heap} {acc:List (Str×Addr)} {x y:Str} {c:Addr},(∀ p∈acc,p.2 < h.objs.size)→(∀ x y c,(x,c)∈acc→(y,c)∈acc→x=y) →
  (x,c)∈cellsFrom h.objs.size names acc→(y,c)∈cellsFrom h.objs.size names acc→x=y
 | [],_,_,_,_,_,_,hi,h1,h2=>hi _ _ _ h1 h2
 | (n,k)::r,h,acc,x,y,c,hl,hi,h1,h2=>by
  unfold cellsFrom at h1 h2;split at h1
  ·rename_i hk;rw [if_pos hk] at h2;rw [← Heap.size_push h { cls:=.type "cell",data:=.cell none }] at h1 h2;refine uu (h:=h.push _) (fun p hp=>?_) (fun x y c a b=>?_) h1 h2
   ·rw [Heap.size_push];rcases List.mem_cons.mp hp with rfl | hp
    ·exact Nat.lt_succ_self _
    ·exact Nat.lt_succ_of_lt (hl p hp)
   ·rcases List.mem_cons.mp a with e | a <;> rcases List.mem_cons.mp b with e' | b
    ·cases e;cases e';rfl
    ·cases e;exact absurd (hl _ b) (Nat.lt_irrefl _)
    ·cases e';exact absurd (hl _ a) (Nat.lt_irrefl _)
    ·exact hi _ _ _ a b
  ·rename_i hk;rw [if_neg hk] at h2;exact uu hl hi h1 h2
theorem BK {M:Model} {A:Around} {E:Value→Shared→Prop} {s:Shared} {scope:Scope} {globals:Addr} {closure:List (Str×Addr)} {qual:Str} {func:Option Addr} {code:Value} {around:Env} {builtins:Addr} {Q:Env→Shared→Prop}
  (h:Q (newEnv scope s.heap.objs.size globals (cellsFrom (s.heap.objs.size+1) scope.names closure) qual func code (some around) builtins)
   { s with heap:=pushCells (s.heap.push { cls:=.type "dict",data:=.dict #[] }) scope.names }) :
  wpAny M A (newFunctionEnv scope globals closure [] qual func code (some around) builtins) Q E s:=by
 simp only [newFunctionEnv,Option.isSome_some,if_true];refine wpAny_bind (wpAny_alloc ?_);refine wpAny_bind (wpAny_layCells _ (fun n k c=>rfl) scope.names closure _ _ ?_);rw [show ({ s with heap:=s.heap.push { cls:=.type "dict",data:=.dict #[] } }:Shared).heap.objs.size=s.heap.objs.size+1 from Heap.size_push ..];rw [List.forIn_nil];exact wpAny_bind (wpAny_pure (wpAny_pure h))
theorem pH {sc:Scope}:∀ {names:List (Str×NameKind)} {x:Str} {k:NameKind},
  (names.map fun (n,k)=>if (k == NameKind.free&&sc.kind == .function&&sc.names.lookup n == some .cell) then (n,NameKind.cell) else (n,k)).lookup x=some k →
  ∃ k',names.lookup x=some k'∧(k=k'∨(k'=.free∧k=.cell))
 | [],_,_,h=>by simp at h
 | (n,HL)::r,x,k,h=>by
  have ih:=@pH sc r x k;have h':List.lookup x ((if (HL == NameKind.free&&sc.kind == .function&&sc.names.lookup n == some .cell)=true then (n,NameKind.cell) else (n,HL))::(r.map _))=some k:=h;cases hx:x == n with
  | true =>
   simp only [List.lookup_cons,hx];by_cases hc:(HL == NameKind.free&&sc.kind == .function&&sc.names.lookup n == some .cell)=true
   ·rw [if_pos hc] at h';simp only [List.lookup_cons,hx] at h';cases h';simp only [Bool.and_eq_true,beq_iff_eq] at hc;exact ⟨HL,rfl,.inr ⟨hc.1.1,rfl⟩⟩
   ·rw [if_neg hc] at h';simp only [List.lookup_cons,hx] at h';cases h';exact ⟨_,rfl,.inl rfl⟩
  | false =>
   simp only [List.lookup_cons,hx];by_cases hc:(HL == NameKind.free&&sc.kind == .function&&sc.names.lookup n == some .cell)=true
   ·rw [if_pos hc] at h';simp only [List.lookup_cons,hx] at h';exact ih h'
   ·rw [if_neg hc] at h';simp only [List.lookup_cons,hx] at h';exact ih h'
structure BL (N:List Str) (sc scope:Scope) (own:List (Str×Nat)):Prop where
 kind:scope.kind=.function
 uniq:∀ y∈scope.names,scope.names.lookup y.1=some y.2
 ix:∀ p∈own,N[p.2]?=some p.1
 free:∀ y∈scope.names,y.2=.free→sc.names.lookup y.1=some .cell∨sc.names.lookup y.1=some .free
 own:∀ y∈scope.names,y.2=.local∨y.2=.cell→y.1∈own.map (·.1)∨y.1∉N
noncomputable def wipe (σ:St):List Nat→St
 | []=>σ
 | v::vs=>(wipe σ vs).set v none
theorem pJ (σ:St):∀ vs:List Nat,(wipe σ vs).length=σ.length
 | []=>rfl
 | v::vs=>by unfold wipe;rw [List.length_set,pJ σ vs]
theorem uv {σ:St} {i:Nat} {x:V}:∀ {vs:List Nat},(wipe σ vs)[i]?=some (some x)→σ[i]?=some (some x)∧i∉vs
 | [],h=>⟨h,by simp⟩
 | v::vs,h=>by
  unfold wipe at h;by_cases hi:v=i
  ·subst hi;by_cases hv:v < (wipe σ vs).length
   ·rw [List.getElem?_set_self hv] at h;cases h
   ·rw [List.getElem?_eq_none (by simpa using hv)] at h;cases h
  ·rw [List.getElem?_set_ne hi] at h;obtain ⟨h1,h2⟩:=uv h;exact ⟨h1,by simp only [List.mem_cons,not_or];exact ⟨fun e=>hi e.symm,h2⟩⟩
noncomputable abbrev Cx.Af (X:Cx) (s:Shared) (H:Hp) (scope:Scope) (iE:Env) (fp:List Addr):Cx:={ X with eg:=s,H₀:=H,env:=iE,outer:=X.stack,ex:=fp,fn:=fun x=>scope.names.lookup x == some .cell,pn:=[],xe:=fun _ _=>False }
section
variable {X:Cx} {pins:List (Addr×Obj)} {σ:St} {H:Hp} {s:Shared}
theorem BM {scope:Scope} {own:List (Str×Nat)} {fp:List Addr} (I:Inv X pins σ H s) (ok:BL X.N X.env.scope scope own) (hN:X.N.Nodup) (Nh:∀ b∈fp,kD X pins H b∧b < s.heap.objs.size) :
  Inv (X.Af s H scope (compEnvC scope (cellsFrom (s.heap.objs.size+1) scope.names (b7 X.env.cells scope.names [])) s.heap.objs.size X.env) fp) [] (wipe σ (own.map (·.2))) H { s with heap:=pushCells (s.heap.push { cls:=.type "dict",data:=.dict #[] }) scope.names }:=by
 have vh:∀ y∈scope.names,y.2=.free→∃ c,X.env.cells.lookup y.1=some c:=fun y hy e=>by
  rcases ok.free y hy e with k | k
  ·exact I.ok.has _ (.inl k)
  ·exact I.ok.has _ (.inr k)
 generalize BN:compEnvC scope (cellsFrom (s.heap.objs.size+1) scope.names (b7 X.env.cells scope.names [])) s.heap.objs.size X.env=iE;have kp:∀ b o,s.heap.get? b=some o→(pushCells (s.heap.push { cls:=.type "dict",data:=.dict #[] }) scope.names).get? b=some o:=fun b o e=>pushCells_keeps _ _ _ _ (Heap.get?_push_of_some _ e);have hL:iE.locals=s.heap.objs.size:=by rw [← BN];rfl
 have BO:iE.cells=cellsFrom (s.heap.objs.size+1) scope.names (b7 X.env.cells scope.names []):=by rw [← BN];rfl
 have J7:iE.scope=QP scope X.env.scope:=by rw [← BN];rfl
 rw [← Heap.size_push s.heap { cls:=.type "dict",data:=.dict #[] }] at BO;have cm:∀ {y c},(y,c)∈b7 X.env.cells scope.names []→X.env.cells.lookup y=some c∧c < s.heap.objs.size:=fun {y c} hm=>by
  rcases jS hm with hm | ⟨h1,rfl⟩
  ·cases hm
  ·obtain ⟨c,hc⟩:=vh _ h1 rfl;rw [hc];obtain ⟨w,z⟩:=I.cell _ _ hc;exact ⟨rfl,z.lt⟩
 have mem:∀ {y c},iE.cells.lookup y=some c→(X.env.cells.lookup y=some c∧c < s.heap.objs.size)∨(s.heap.objs.size+1≤c∧HK (pushCells (s.heap.push { cls:=.type "dict",data:=.dict #[] }) scope.names) c none):=fun {y c} e=>by
  rw [BO] at e;rcases ny (PySem.mem_of_lookup e) with hm | ⟨_,h2,h3⟩
  ·exact .inl (cm hm)
  ·rw [Heap.size_push] at h2;exact .inr ⟨h2,h3⟩
 have look:∀ {y},scope.names.lookup y=some .free→∃ c,iE.cells.lookup y=some c∧X.env.cells.lookup y=some c:=fun {y} hl=>by
  have hy:(y,NameKind.free)∈scope.names:=PySem.mem_of_lookup hl;obtain ⟨c',e'⟩:=mem_lookup (qJ (names:=scope.names) (n:=(s.heap.push { cls:=.type "dict",data:=.dict #[] }).objs.size) (lZ (cells:=X.env.cells) (acc:=[]) hy));rw [← BO] at e';refine ⟨c',e',?_⟩;rw [BO] at e';rcases ny (PySem.mem_of_lookup e') with hm | ⟨h1,_,_⟩
  ·exact (cm hm).1
  ·have:=ok.uniq _ h1;rw [hl] at this;cases this
 have UI:(X.Af s H scope iE fp).Ok:=by
  refine ⟨I.ok.mod,by show iE.scope.kind=_;rw [J7];exact ok.kind,by show iE.globals=_;rw [← BN];exact I.ok.glob,by show iE.builtins=_;rw [← BN];exact I.ok.blt,by show s.heap.objs.size≤iE.locals;rw [hL];exact Nat.le_refl _,
   fun y z c e1 e2=>?_,fun y hy=>?_,fun y c z e=>?_,I.ok.hd,I.ok.frames,.inl rfl,fun b hb=>⟨?_,fun y c e z=>?_⟩,I.bs,Nat.le_trans I.ok.GK I.sz,fun b o e hb=>?_,fun b hb z=>?_,I.stack,I.Em⟩
  ·have e1:iE.cells.lookup y=some c:=e1;have e2:iE.cells.lookup z=some c:=e2;rw [BO] at e1 e2;refine uu (fun p hp=>?_) (fun y z c a b=>I.ok.inj y z c (cm a).1 (cm b).1) (PySem.mem_of_lookup e1) (PySem.mem_of_lookup e2);rw [Heap.size_push];exact Nat.lt_succ_of_lt (cm (y:=p.1) (c:=p.2) hp).2
  ·show ∃ c,iE.cells.lookup y=some c;have key:∀ k,iE.kindOf y=some k→(k=.cell∨k=.free)→∃ c,iE.cells.lookup y=some c:=fun k hk sT=>by
    unfold Env.kindOf at hk;rw [J7] at hk;obtain ⟨k',e,r⟩:=pH hk;have:k'=.cell∨k'=.free:=by
     rcases r with rfl | ⟨rfl,_⟩
     ·exact sT
     ·exact .inr rfl
    rcases this with rfl | rfl
    ·obtain ⟨c,hm⟩:=ur (n:=(s.heap.push { cls:=.type "dict",data:=.dict #[] }).objs.size) (acc:=b7 X.env.cells scope.names []) (PySem.mem_of_lookup e);obtain ⟨c',e'⟩:=mem_lookup hm;exact ⟨c',by rw [BO];exact e'⟩
    ·obtain ⟨c,h1,_⟩:=look e;exact ⟨c,h1⟩
   rcases hy with hy | hy
   ·exact key _ hy (.inl rfl)
   ·exact key _ hy (.inr rfl)
  ·have z:(scope.names.lookup y == some NameKind.cell)=true:=z;have z:scope.names.lookup y=some .cell:=by simpa using z
   have e:iE.cells.lookup y=some c:=e;rw [BO] at e;rcases ny (PySem.mem_of_lookup e) with hm | ⟨_,h2,_⟩
   ·rcases jS hm with hm | ⟨h1,_⟩
    ·cases hm
    ·have q:=ok.uniq _ h1;rw [z] at q;cases q
   ·rw [Heap.size_push] at h2;exact Nat.le_of_succ_le h2
  ·show b≠iE.locals;rw [hL];exact Nat.ne_of_lt (Nh b hb).2
  ·have e:iE.cells.lookup y=some c:=e;rcases mem e with ⟨h1,_⟩ | ⟨h1,_⟩
   ·exact (Nh b hb).1.2.2.2.2.1 y c h1 z
   ·have h2:s.heap.objs.size+1≤b:=by rw [← z];exact h1
    exact absurd (Nat.lt_of_lt_of_le (Nh b hb).2 (Nat.le_of_succ_le h2)) (Nat.lt_irrefl _)
  ·rcases (Nh b hb).1.2.2.2.1 with z | z
   ·exact I.ok.Hd b o e z
   ·exact absurd (Nat.lt_of_lt_of_le (Heap.lt_size e) (Nat.le_trans I.ok.GK z)) (Nat.lt_irrefl _)
  ·rcases List.mem_cons.mp (I.CW b z) with z | z
   ·exact (Nh b hb).1.2.1 z
   ·exact (Nh b hb).1.2.2.1 z
 refine ⟨UI,rfl,I.bare,Un.kept kp,⟨fun _=>none,?_,fun i y av e1 e2 e3=>?_⟩,fun y c e=>?_,?_,fun y c e=>?_,fun p hp=>?_,I.dz.kept kp,by rw [pJ];exact I.len⟩
 ·show Heap.Ns _ iE.locals _;rw [hL];exact Heap.Ns.keeps (Heap.Ns.new ..) fun b o e=>pushCells_keeps _ _ _ _ e
 ·obtain ⟨e2,kW⟩:=uv e2;have EG:scope.names.lookup y=some .free∧(iE.kindOf y=some .cell∨iE.kindOf y=some .free):=by
   have key:∀ k,iE.scope.names.lookup y=some k→k=.local∨k=.cell∨k=.free→scope.names.lookup y=some .free∧(iE.kindOf y=some .cell∨iE.kindOf y=some .free):=fun k hk sT=>by
    have Ni:=hk;rw [J7] at hk;obtain ⟨k',e,r⟩:=pH hk;have no:¬ (k'=.local∨k'=.cell):=fun hh=>by
     rcases ok.own _ (PySem.mem_of_lookup e) hh with e' | e'
     ·obtain ⟨p,hp,UJ⟩:=List.mem_map.mp e';have e3:=ok.ix p hp;have:p.1=y:=UJ;rw [this] at e3;exact kW (List.mem_map.mpr ⟨p,hp,wZ hN e3 e1⟩)
     ·exact e' (List.mem_of_getElem? e1)
    rcases r with rfl | ⟨rfl,rfl⟩
    ·rcases sT with rfl | rfl | rfl
     ·exact absurd (.inl rfl) no
     ·exact absurd (.inr rfl) no
     ·exact ⟨e,.inr Ni⟩
    ·exact ⟨e,.inl Ni⟩
   have e3:K5 iE.scope y:=e3;rcases e3 with e3 | e3 | e3
   ·exact key _ e3 (.inl rfl)
   ·exact key _ e3 (.inr (.inl rfl))
   ·exact key _ e3 (.inr (.inr rfl))
  obtain ⟨m,hn,hl⟩:=I.loc;have QQ:K5 X.env.scope y:=(ok.free _ (PySem.mem_of_lookup EG.1) rfl).elim (fun k=>.inr (.inl k)) (fun k=>.inr (.inr k));obtain ⟨w,r,q⟩:=hl i y av e1 e2 QQ;refine ⟨w,r,.inr ⟨EG.2,?_⟩⟩;obtain ⟨c,h1,h2⟩:=look EG.1;rcases q with ⟨k,_⟩ | ⟨_,c',e',z⟩
  ·have k:X.env.scope.names.lookup y=some .local:=k;rcases ok.free _ (PySem.mem_of_lookup EG.1) rfl with k' | k' <;> rw [show X.env.scope.names.lookup y=_ from k'] at k <;> cases k
  ·rw [h2] at e';cases e';exact ⟨c,h1,z.keeps kp⟩
 ·have e:iE.cells.lookup y=some c:=e;rcases mem e with ⟨h1,_⟩ | ⟨_,z⟩
  ·obtain ⟨w,z⟩:=I.cell y c h1;exact ⟨w,z.keeps kp⟩
  ·exact ⟨_,z⟩
 ·show H iE.locals=none;rw [hL];exact I.dz.fresh (Nat.le_refl _)
 ·have e:iE.cells.lookup y=some c:=e;rcases mem e with ⟨h1,_⟩ | ⟨h1,_⟩
  ·exact I.lW y c h1
  ·exact I.dz.fresh (Nat.le_of_succ_le h1)
 ·exact absurd (show p∈([]:List (Addr×Obj))++[] from hp) (by simp)
theorem Ml {E:Value→Shared→Prop} {D:Addr} {xs:List V} {y:V} {v:Value} {Q:Value→Shared→Prop} (I:Inv X pins σ H s) (hD:H D=some (.lst xs)) (hz:xs.length < sizeLine) (r:RelV y v)
  (h:∀ s',Inv X pins σ (upd H D (.lst (xs++[y]))) s'→Q .none s'):wpAny (model X.prog X.w) X.A (call (.builtin "list.append") [.ref D,v]) Q E s:=by
 obtain ⟨Pj,its,n,ri,e⟩:=I.dz D _ hD;have hl:=ri.length;refine append_at (hsz:=by rw [List.size_toArray];omega) e fun h' sb El=>?_;refine h { s with heap:=h' } (I.write (t':=s.toks) (by rw [hD];trivial) (.inl rfl) (fun b u hb q=>(sb.2 b hb).trans q) ⟨_,El⟩ ⟨by rw [List.length_append];exact hz,its++[v],n+1,ri.append (.cons r .nil),?_⟩);rw [El];simp
noncomputable def N4 (X:Cx) (ifs:List Expr) (t:TT):Prop :=
 ∀ (pins:List (Addr×Obj)) (s:Shared) (σ:St) (H:Hp) (Q:Bool→Hp→Prop),Inv X pins σ H s→t σ H Q →
  wpAny (model X.prog X.w) X.A (forIn ifs true fun c r=>if r=true then do let ok ← isTrue c X.env (eval c X.env);pure (ForInStep.yield ok) else pure (ForInStep.yield r)) (TP X pins σ Q) X.xe s
noncomputable def Mm:TT:=fun _ H Q=>Q true H
theorem eA:N4 X [] Mm:=fun _ _ _ H _ I h=>wpAny_tests_nil ⟨H,I,h⟩
theorem tz {c:Expr} {t:TT} (h:PT X c t):N4 X [c] t:=fun pins s σ H Q I hw=>wpAny_tests_one (h pins s σ H Q I hw)
end
theorem FN {α:Type} {t:Sem α} {Q Q':α→Shared→Prop} {M:Model} {A:Around} {E:Value→Shared→Prop} {s:Shared} (h:wpAny M A t Q (fun _ _=>False) s) (hQ:∀ a s,Q a s→Q' a s):wpAny M A t Q' E s:=wpAny_mono h hQ fun _ _ z=>False.elim z
theorem Ag {prog:Program} {w:World} {A:Around} {R:Result→Shared→Prop} {s:Shared} {elt target iter:Expr} {ifs:List Expr} {scope:Scope} {pos:Pos} {it acc:Value} {env:Env} (I:Nat→Shared→Prop)
  (turn:∀ n s,I n s→wpAny (model prog w) A (pyNext it) (fun r cF=>match r with
   | none=>R (.ok .next) cF
   | some v=>wpAny (model prog w) A (letOwnedTupleGo target it v) (fun _ Lc=>wpAny (model prog w) A (assign target env v) (fun _ nr =>
     wpAny (model prog w) A (forIn ifs true fun c r=>if r=true then do let ok ← isTrue c env (eval c env);pure (ForInStep.yield ok) else pure (ForInStep.yield r)) (fun ok FP =>
      if ok=true then wpAny (model prog w) A (eval elt env) (fun x N5 =>
       wpAny (model prog w) A (call (.builtin "list.append") [acc,x]) (fun _ N6=>∃ m,m < n∧I m N6) (notedBy (model prog w) A env fun e s'=>R (.error e) s') N5) (notedBy (model prog w) A env fun e s'=>R (.error e) s') FP
      else ∃ m,m < n∧I m FP) (notedBy (model prog w) A env fun e s'=>R (.error e) s') nr) (notedBy (model prog w) A env fun e s'=>R (.error e) s') Lc) (notedBy (model prog w) A env fun e s'=>R (.error e) s') cF) (notedBy (model prog w) A env fun e s'=>R (.error e) s') s)
  (n:Nat) (h:I n s) :
  codeAny (model prog w) A (.compLoop (.ListComp elt [⟨target,iter,ifs,0⟩] scope pos) 0 it acc env) R s:=by
 refine codeAny_loop rfl I (fun n s hI=>?_) n h;show wpAny _ A ((compTurn (.ListComp elt [⟨target,iter,ifs,0⟩] scope pos) 0 it acc env).onRaise (fun x=>do noteFrame x env;theTreesLotGoes x)) _ _ s;refine wpAny_noted ?_;rw [compTurn_list];refine wpAny_bind (wpAny_standAt (wpAny_bind (wpAny_mono (turn n s hI) (fun r cF Dd=>?_) fun _ _ h'=>h')));cases r with
 | none=>exact wpAny_pure Dd
 | some v =>
  refine wpAny_bind (wpAny_mono Dd (fun _ Lc N7=>?_) fun _ _ h'=>h');refine wpAny_bind (wpAny_mono N7 (fun _ nr HM=>wpAny_bind (wpAny_mono HM (fun ok FP J8=>?_) fun _ _ h'=>h')) fun _ _ h'=>h');cases ok with
  | false=>exact wpAny_pure ⟨rfl,J8⟩
  | true =>
   exact wpAny_bind (wpAny_bind (wpAny_mono J8 (fun x N5 QR=>wpAny_bind (wpAny_mono QR (fun _ N6 QS=>wpAny_pure (wpAny_pure ⟨rfl,QS⟩)) fun _ _ h'=>h')) fun _ _ h'=>h'))
section
variable {X:Cx}
noncomputable def N8 (wi:TI) (g:TG) (tt:TT) (te:TE) (vs:List Nat):TE:=fun σ H Q=>wi σ H fun J H1=>∀ D,H1 D=none→∃ W:Nat→Nat→Hp→Prop,(∃ m,W 0 m (upd H1 D (.lst [])))∧∀ i m H,W i m H →
 (J.stop i H∧Q (.ref D) H)∨(J.go i H∧∃ Nx:Hp→Prop,(∀ H',Nx H'→∃ m',m' < m∧W (i+1) m' H')∧∀ x H',J.Fq i H x H'→g x (wipe σ vs) H' fun gy H2=>wipe gy vs=wipe σ vs∧tt gy H2 fun b H3 =>
  if b=true then te gy H3 fun y H4=>∃ acc,H4 D=some (.lst acc)∧acc.length < sizeLine∧Nx (upd H4 D (.lst (acc++[y]))) else Nx H3)
theorem EH {pins:List (Addr×Obj)} {s:Shared} {σ:St} {H:Hp} {Q:VK} {elt tg iter:Expr} {ifs:List Expr} {scope:Scope} {own:List (Str×Nat)} {pos pos':Pos} {wi:TI} {g:TG} {tt:TT} {te:TE} {use:Option (Value→Sem Unit)} {Qf:Value→Shared→Prop}
  (hc:X.calm=true) (hN:X.N.Nodup) (I:Inv X pins σ H s) (hi:PI X tg iter wi) (ok:BL X.N X.env.scope scope own)
  (hg:∀ (s:Shared) (H:Hp) (C:Addr) (cl:List (Str×Addr)) (fp:List Addr),PG (X.Af s H scope (compEnvC scope cl C X.env) fp) tg g) (ht:∀ (s:Shared) (H:Hp) (C:Addr) (cl:List (Str×Addr)) (fp:List Addr),N4 (X.Af s H scope (compEnvC scope cl C X.env) fp) ifs tt)
  (he:∀ (s:Shared) (H:Hp) (C:Addr) (cl:List (Str×Addr)) (fp:List Addr),PE (X.Af s H scope (compEnvC scope cl C X.env) fp) elt te) (hs:∀ x,foldedSetIterable iter X.env x=pure x)
  (h:N8 wi g tt te (own.map (·.2)) σ H Q)
  (UK:∀ D C s' m H',Inv X pins σ H' s'→Q (.ref D) H'→s'.heap.Ns C m→kD X pins H' C→compPost (model X.prog X.w) X.A X.xe use Qf (.ref D) C (.ok .next) s') :
  wpAny (model X.prog X.w) X.A (comprehension (.ListComp elt [⟨tg,iter,ifs,0⟩] scope pos) scope X.env pos' (newList []) false (eval iter X.env) use) Qf X.xe s:=by
 have vh:∀ y∈scope.names,y.2=.free→∃ c,X.env.cells.lookup y.1=some c:=fun y hy e=>by
  rcases ok.free y hy e with k | k
  ·exact I.ok.has _ (.inl k)
  ·exact I.ok.has _ (.inr k)
 refine wpAny_comprehension_free (use:=use) rfl hs (xk vh) ok.kind (fun y hy e=>by rw [ok.uniq y hy,e])
  (dP (hi pins s σ H _ I h) fun xv s1 hx=>dP hx fun Qv s2 h2=>?_)
 obtain ⟨it,fp,tn,J,H2,e,I2,T,Pc,f2,q⟩:=h2;subst e;refine wpAny_newObj_type (BK ?_) (by show 0≤sizeLine;decide);generalize hD:s2.heap.objs.size=D;have N9:H2 D=none:=I2.dz.fresh (Nat.le_of_eq hD);obtain ⟨W,⟨m0,w0⟩,turn⟩:=q D N9
 -- the new list
 generalize Ss:({ s2 with heap:=s2.heap.push { cls:=.type "list",data:=.seq ([]:List Value).toArray } }:Shared)=s3;have I3:Inv X pins σ (upd H2 D (.lst [])) s3:=by
  rw [← Ss];refine I2.laid (t':=s2.toks) (fun b o e=>Heap.get?_push_of_some _ e) (Nat.le_of_eq hD) ⟨Nat.zero_le _,[],0,.nil,?_⟩;rw [← hD];exact Heap.get?_push_size _ rfl
 have h3:s3.heap=s2.heap.push { cls:=.type "list",data:=.seq ([]:List Value).toArray }:=by rw [← Ss]
 have sz:∀ b∈fp,b < s2.heap.objs.size:=fun b hb=>by
  obtain ⟨o,e,_⟩:=T.obj _ _ Pc b hb;exact Heap.lt_size e
 have f3:∀ b∈fp,kD X pins (upd H2 D (.lst [])) b∧b < s3.heap.objs.size:=fun b hb=>by
  have iD:=sz b hb;refine ⟨⟨?_,(f2 b hb).2⟩,by rw [h3,Heap.size_push];exact Nat.lt_succ_of_lt iD⟩;rw [aH (by rw [← hD];exact Nat.ne_of_lt iD)];exact (f2 b hb).1
 have Pd:tn 0 s3.heap:=T.keep _ _ _ Pc fun b _ o e=>by rw [h3];exact Heap.get?_push_of_some _ e
 have I4:=BM I3 ok hN f3;have pg:=hg s3 (upd H2 D (.lst [])) s3.heap.objs.size (cellsFrom (s3.heap.objs.size+1) scope.names (b7 X.env.cells scope.names [])) fp;have pt:=ht s3 (upd H2 D (.lst [])) s3.heap.objs.size (cellsFrom (s3.heap.objs.size+1) scope.names (b7 X.env.cells scope.names [])) fp;have pe:=he s3 (upd H2 D (.lst [])) s3.heap.objs.size (cellsFrom (s3.heap.objs.size+1) scope.names (b7 X.env.cells scope.names [])) fp;show codeAny _ _ (.compStart (.ListComp elt [⟨tg,iter,ifs,0⟩] scope pos) 0 (.ref it) (.ref D) (compEnvC scope (cellsFrom (s3.heap.objs.size+1) scope.names (b7 X.env.cells scope.names [])) s3.heap.objs.size X.env)) (compPost (model X.prog X.w) X.A X.xe use Qf (.ref D) s3.heap.objs.size) { s3 with heap:=pushCells (s3.heap.push { cls:=.type "dict",data:=.dict #[] }) scope.names };have Su:∀ b∈fp,(upd H2 D (.lst [])) b=none:=fun b hb=>(f3 b hb).1.1;generalize UL:compEnvC scope (cellsFrom (s3.heap.objs.size+1) scope.names (b7 X.env.cells scope.names [])) s3.heap.objs.size X.env=ce at I4 pg pt pe ⊢;have cL:ce.locals=s3.heap.objs.size:=by subst UL;rfl
 generalize XQ:upd H2 D (.lst [])=H3 at I3 I4 pg pt pe w0 Su f3;generalize UM:({ s3 with heap:=pushCells (s3.heap.push { cls:=.type "dict",data:=.dict #[] }) scope.names }:Shared)=s4 at I4 ⊢;have Sv:tn 0 s4.heap:=T.keep _ _ _ Pd fun b _ o e=>by rw [← UM];exact pushCells_keeps _ _ _ _ (Heap.get?_push_of_some _ e)
 have C1:∀ {di:St} {H':Hp} {s':Shared},Inv (X.Af s3 H3 scope ce fp) [] di H' s'→(∀ b∈fp,H' b=none)→∀ b∈fp,kD (X.Af s3 H3 scope ce fp) [] H' b:=fun {di H' s'} I' hn b hb =>
  ⟨hn b hb,(I'.ok.O6 b hb).1,I'.ok.He b hb,.inl hb,fun x c e=>(I'.ok.O6 b hb).2 x c e,fun p hp=>absurd (show p∈([]:List (Addr×Obj))++[] from hp) (by simp)⟩
 have loop:codeAny (model X.prog X.w) X.A (.compLoop (.ListComp elt [⟨tg,iter,ifs,0⟩] scope pos) 0 (.ref it) (.ref D) ce) (compPost (model X.prog X.w) X.A X.xe use Qf (.ref D) s3.heap.objs.size) s4:=by
  refine Ag (fun n s'=>∃ i H',Inv (X.Af s3 H3 scope ce fp) [] (wipe σ (own.map (·.2))) H' s'∧tn i s'.heap∧(∀ b∈fp,H' b=none)∧W i n H') ?_ m0 ⟨0,H3,I4,Sv,Su,w0⟩;rintro n s5 ⟨i,H5,I5,Nf,n5,w5⟩;rcases turn i n H5 w5 with ⟨stop,qq⟩ | ⟨go,Nx,UN,step⟩
  ·have td:=T.done (X.Af s3 H3 scope ce fp) rfl rfl rfl hc i [] s5 _ H5 (fun _ _=>False) I5 (C1 I5 n5) Nf stop;refine FN td fun r s6 ⟨hr,I6⟩=>?_;subst hr
   -- back in the Sw context
   have I7:Inv X pins σ H5 s6:=I3.K6 (ch:=fp) I6.os I6.base I6.dz I6.bare fun b hb=>⟨(f3 b hb).1.2.2.2.1,(f3 b hb).1.2.1,(f3 b hb).1.2.2.2.2.1,(f3 b hb).1.2.2.2.2.2⟩;have nC:H5 s3.heap.objs.size=none:=by
    have z:H5 ce.locals=none:=I6.free;rw [cL] at z;exact z
   obtain ⟨m,hn,_⟩:=I6.loc;have hn:s6.heap.Ns ce.locals m:=hn;rw [cL] at hn;exact UK D s3.heap.objs.size s6 m H5 I7 qq hn (I3.z4 (Nat.le_refl _) nC)
  ·have ti:=T.item (X.Af s3 H3 scope ce fp) rfl rfl rfl hc i [] s5 _ H5 (fun _ _=>False) I5 (C1 I5 n5) Nf go;refine FN ti fun r s6 ⟨u,hr,h6⟩=>?_;subst hr;refine FN h6 fun _ s7 ⟨x,H7,I7,r7,y7,QT,n7⟩=>?_;have UO:=I7.pinned (C1 I7 n7) (T.obj _ _ QT);refine FN (pg _ s7 _ H7 x u _ UO r7 (step x H7 y7)) fun _ s8 ⟨Pk,H8,I8,Sx,q8⟩=>?_;refine FN (pt _ s8 Pk H8 _ I8 q8) fun b s9 ⟨H9,I9,q9⟩=>?_
   -- the turn's end
   have fin:∀ {s':Shared} {H':Hp},Inv (X.Af s3 H3 scope ce fp) ([]++w8 fp s7.heap) Pk H' s'→Nx H'→∃ m,m < n∧∃ i H',Inv (X.Af s3 H3 scope ce fp) [] (wipe σ (own.map (·.2))) H' s'∧tn i s'.heap∧(∀ b∈fp,H' b=none)∧W i m H':=fun {s' H'} I' nx=>by
    obtain ⟨m',hm,w'⟩:=UN H' nx;have Oa:∀ b∈fp,∀ o,s7.heap.get? b=some o→s'.heap.get? b=some o∧H' b=none:=fun b hb o e =>
     let z:=I'.pin (b,o) (List.mem_append_right _ (List.mem_append_right _ (rZ hb e)))
     ⟨z.1,z.2.1⟩
    have hl:(wipe σ (own.map (·.2))).length=Pk.length:=by rw [← Sx,pJ]
    refine ⟨m',hm,i+1,H',(I'.tq (pins:=[])).weak hl (fun j v e=>?_),T.keep _ _ _ QT fun b hb o e=>(Oa b hb o e).1,fun b hb=>?_,w'⟩
    ·rw [← Sx] at e;exact (uv e).1
    ·obtain ⟨o,e,_⟩:=T.obj _ _ QT b hb;exact (Oa b hb o e).2
   cases b with
   | false =>
    simp only [Bool.false_eq_true,if_false] at q9 ⊢;exact fin I9 q9
   | true =>
    simp only [if_true] at q9 ⊢;refine FN (pe _ s9 Pk H9 _ I9 q9) fun z XR ⟨yv,XS,UP,UQ,acc,QU,QV,nx⟩=>?_;exact Ml (X:=X.Af s3 H3 scope ce fp) UP QU QV UQ fun XT UR=>fin UR nx
 exact codeAny_compStart_list loop (T.self X.A 0 _ _ _ Sv loop)
theorem nz {elt tg iter:Expr} {ifs:List Expr} {scope:Scope} {own:List (Str×Nat)} {pos:Pos} {wi:TI} {g:TG} {tt:TT} {te:TE} (hc:X.calm=true) (hN:X.N.Nodup) (hi:PI X tg iter wi) (ok:BL X.N X.env.scope scope own)
  (hg:∀ (s:Shared) (H:Hp) (C:Addr) (cl:List (Str×Addr)) (fp:List Addr),PG (X.Af s H scope (compEnvC scope cl C X.env) fp) tg g) (ht:∀ (s:Shared) (H:Hp) (C:Addr) (cl:List (Str×Addr)) (fp:List Addr),N4 (X.Af s H scope (compEnvC scope cl C X.env) fp) ifs tt)
  (he:∀ (s:Shared) (H:Hp) (C:Addr) (cl:List (Str×Addr)) (fp:List Addr),PE (X.Af s H scope (compEnvC scope cl C X.env) fp) elt te) (hs:∀ x,foldedSetIterable iter X.env x=pure x:=by intro _;rfl) :
  PE X (.ListComp elt [⟨tg,iter,ifs,0⟩] scope pos) (N8 wi g tt te (own.map (·.2))):=by
 intro pins s σ H Q I h;rw [eval_ListComp];refine EH hc hN I hi ok hg ht he hs h fun D C s' m H' I' q hn f=>⟨m,hn,fun LK sb=>?_⟩;obtain ⟨f0,f1,f2,f3,f4,f5⟩:=f;exact ⟨.ref D,H',I'.turned (t':=s'.toks) (fun b o hb e=>(sb.2 b hb).trans e) f0 f1 f3 f4 f5,rfl,q⟩
theorem jT {i:Nat} {y:Str} {py:Pos} {elt tg iter:Expr} {ifs:List Expr} {scope:Scope} {own:List (Str×Nat)} {pos Ob:Pos} {wi:TI} {g:TG} {tt:TT} {te:TE} (hc:X.calm=true) (hN:X.N.Nodup) (hy:X.N[i]?=some y) (QW:X.env.scope.names.lookup y=some .local)
  (US:swapsWith (.ListComp elt [⟨tg,iter,ifs,0⟩] scope pos) (some (.Name y py)) Ob.line X.env=pure true) (hi:PI X tg iter wi) (ok:BL X.N X.env.scope scope own)
  (hg:∀ (s:Shared) (H:Hp) (C:Addr) (cl:List (Str×Addr)) (fp:List Addr),PG (X.Af s H scope (compEnvC scope cl C X.env) fp) tg g) (ht:∀ (s:Shared) (H:Hp) (C:Addr) (cl:List (Str×Addr)) (fp:List Addr),N4 (X.Af s H scope (compEnvC scope cl C X.env) fp) ifs tt)
  (he:∀ (s:Shared) (H:Hp) (C:Addr) (cl:List (Str×Addr)) (fp:List Addr),PE (X.Af s H scope (compEnvC scope cl C X.env) fp) elt te) (hs:∀ x,foldedSetIterable iter X.env x=pure x:=by intro _;rfl) :
  PS X (.Assign [.Name y py] (.ListComp elt [⟨tg,iter,ifs,0⟩] scope pos) Ob) (tAsg (N8 wi g tt te (own.map (·.2))) (gName i)):=by
 intro pins s σ H D I h;rw [exec_Assign_Name_used _ _ _ _ US];refine wpAny_bind (wpAny_standAt (wpAny_bind ?_));show wpAny _ X.A (do let _ ← comprehension (.ListComp elt [⟨tg,iter,ifs,0⟩] scope pos) scope X.env (firstIterPos [⟨tg,iter,ifs,0⟩] pos) (newList []) false (eval iter X.env) (some (assign (.Name y py) X.env))) _ _ s;have h:N8 wi g tt te (own.map (·.2)) σ H (fun x H1=>gName i x σ H1 D.nx):=h;refine wpAny_bind (dP (EH (Qf:=fun _ s'=>SP X pins D .next s') hc hN I hi ok hg ht he hs h fun L C s' m H' I' q hn f=>?_) fun _ s' hq=>wpAny_pure (wpAny_pure hq));show wpAny _ _ (assign (.Name y py) X.env (.ref L)) _ _ _;refine wpAny_assign_Name (zp (v:=V.ref L) I' hN hy (.inl QW) rfl (fun s2 I2 ⟨a,sb,ha⟩=>?_) (.inr QW));obtain ⟨f0,f1,f2,f3,f4,f5⟩:=f;have UT:C≠a:=by
  rcases ha with z | z
  ·rw [z];exact f1
  ·exact fun e=>f4 y a z e.symm
 refine ⟨m,hn.sameBut sb UT,fun h3 UU=>?_⟩;exact ⟨_,H',I2.turned (t':=s2.toks) (fun b o hb e=>(UU.2 b hb).trans e) f0 f1 f3 f4 f5,q⟩
theorem l8 {elt:Expr} {gs:List Comprehension} {scope:Scope} {pos py:Pos} {y:Str} {l:Nat} {env:Env} (hk:env.scope.kind=.function) (hy:env.scope.names.lookup y=some .local) (hl:(py.line == pos.line)=true)
  (ha:(scope.names.any fun (n,k)=>n == y&&(k == .local || k == .cell))=false):swapsWith (.ListComp elt gs scope pos) (some (.Name y py)) l env=pure true:=by
 have ky:env.kindOf y=some .local:=hy;have hb:env.blockKind=.function:=by unfold Env.blockKind;rw [hk];rfl
 unfold swapsWith;simp only [hb,ky,ha,Expr.pos,hl];rfl
end
theorem HN {lo:Int} {n:Nat} {g:TG} {tt:TT} {te:TE} {vs:List Nat} {σ:St} {H1:Hp} {D:Addr} {Qd:Hp→Prop} (Pv:Nat→Hp→Prop) (h0:Pv 0 (upd H1 D (.lst [])))
  (hs:∀ i H,i < n→Pv i H→g (.int (lo+i)) (wipe σ vs) H fun gy H2=>wipe gy vs=wipe σ vs∧tt gy H2 fun b H3 =>
   if b=true then te gy H3 fun y H4=>∃ acc,H4 D=some (.lst acc)∧acc.length < sizeLine∧Pv (i+1) (upd H4 D (.lst (acc++[y]))) else Pv (i+1) H3) (hd:∀ H,Pv n H→Qd H) :
  ∃ W:Nat→Nat→Hp→Prop,(∃ m,W 0 m (upd H1 D (.lst [])))∧∀ i m H,W i m H →
   ((GN lo n).stop i H∧Qd H)∨((GN lo n).go i H∧∃ Nx:Hp→Prop,(∀ H',Nx H'→∃ m',m' < m∧W (i+1) m' H')∧∀ x H',(GN lo n).Fq i H x H'→g x (wipe σ vs) H' fun gy H2=>wipe gy vs=wipe σ vs∧tt gy H2 fun b H3 =>
    if b=true then te gy H3 fun y H4=>∃ acc,H4 D=some (.lst acc)∧acc.length < sizeLine∧Nx (upd H4 D (.lst (acc++[y]))) else Nx H3):=by
 refine ⟨fun i m H=>m=n - i∧i≤n∧Pv i H,⟨n,by simp,Nat.zero_le _,h0⟩,?_⟩;rintro i m H ⟨rfl,hi,p⟩;by_cases iD:i < n
 ·refine .inr ⟨iD,Pv (i+1),fun H' p'=>⟨n - (i+1),by omega,rfl,iD,p'⟩,fun x H' y=>?_⟩;obtain ⟨e,y⟩:=y;subst e y;exact hs i _ iD p
 ·have e:i=n:=by omega
  subst e;exact .inl ⟨Nat.le_refl _,hd H p⟩
theorem EI {K:PySem.W.Frag} {a:Addr} {xs:List V} {g:TG} {tt:TT} {te:TE} {vs:List Nat} {σ:St} {H1:Hp} {D:Addr} {Qd:Hp→Prop} (Pv:Nat→Hp→Prop) (h0:Pv 0 (upd H1 D (.lst []))) (hl:∀ i H,i≤xs.length→Pv i H→bU K H a xs)
  (hs:∀ i x H,xs[i]?=some x→Pv i H→g x (wipe σ vs) H fun gy H2=>wipe gy vs=wipe σ vs∧tt gy H2 fun b H3 =>
   if b=true then te gy H3 fun y H4=>∃ acc,H4 D=some (.lst acc)∧acc.length < sizeLine∧Pv (i+1) (upd H4 D (.lst (acc++[y]))) else Pv (i+1) H3) (hd:∀ H,Pv xs.length H→Qd H) :
  ∃ W:Nat→Nat→Hp→Prop,(∃ m,W 0 m (upd H1 D (.lst [])))∧∀ i m H,W i m H →
   ((Es K a).stop i H∧Qd H)∨((Es K a).go i H∧∃ Nx:Hp→Prop,(∀ H',Nx H'→∃ m',m' < m∧W (i+1) m' H')∧∀ x H',(Es K a).Fq i H x H'→g x (wipe σ vs) H' fun gy H2=>wipe gy vs=wipe σ vs∧tt gy H2 fun b H3 =>
    if b=true then te gy H3 fun y H4=>∃ acc,H4 D=some (.lst acc)∧acc.length < sizeLine∧Nx (upd H4 D (.lst (acc++[y]))) else Nx H3):=by
 refine ⟨fun i m H=>m=xs.length - i∧i≤xs.length∧Pv i H,⟨xs.length,by simp,Nat.zero_le _,h0⟩,?_⟩;rintro i m H ⟨rfl,hi,p⟩;have q:=hl i H hi p;by_cases iD:i < xs.length
 ·refine .inr ⟨⟨xs,xs[i],q,by simp [iD]⟩,Pv (i+1),fun H' p'=>⟨xs.length - (i+1),by omega,rfl,iD,p'⟩,fun x H' y=>?_⟩;obtain ⟨e,y⟩:=y;subst e;exact hs i x _ (y xs q) p
 ·have e:i=xs.length:=by omega
  subst e;exact .inl ⟨⟨xs,q,Nat.le_refl _⟩,hd H p⟩
noncomputable def Oc (N:List Str) (sc scope:Scope) (own:List (Str×Nat)):Bool :=
 (match scope.kind with | .function=>true | _=>false)&&(scope.names.all fun y=>decide (scope.names.lookup y.1=some y.2))&&(own.all fun p=>decide (N[p.2]?=some p.1)) &&
  (scope.names.all fun y=>match y.2 with
   | .free=>(match sc.names.lookup y.1 with | some .cell=>true | some .free=>true | _=>false)
   | .local=>decide (y.1∈own.map (·.1)) || decide (y.1∉N)
   | .cell=>decide (y.1∈own.map (·.1)) || decide (y.1∉N)
   | _=>true)
theorem cq {N:List Str} {sc scope:Scope} {own:List (Str×Nat)} (h:Oc N sc scope own=true):BL N sc scope own:=by
 unfold Oc at h;simp only [Bool.and_eq_true,List.all_eq_true,decide_eq_true_eq] at h;obtain ⟨⟨⟨h1,h2⟩,h3⟩,h4⟩:=h;refine ⟨?_,h2,h3,fun y hy e=>?_,fun y hy e=>?_⟩
 ·split at h1
  ·assumption
  ·cases h1
 ·have q:=h4 y hy;simp only [e] at q;split at q <;> first | exact .inl (by assumption) | exact .inr (by assumption) | cases q
 ·have q:=h4 y hy;rcases e with e | e <;> (simp only [e,Bool.or_eq_true,decide_eq_true_eq] at q;exact q)
section
variable {prog:Program} {w:World} {A:Around} {R:Result→Shared→Prop} {s:Shared} {elt t0 i0 t1 i1:Expr} {UW UX:List Expr} {scope:Scope} {pos:Pos} {it acc:Value} {env:Env}
end
section
variable {X:Cx}
end
section
variable {κ:Type} [DecidableEq κ]
noncomputable def fi (a8:List (κ×V)) (k:κ):Option V:=(a8.find? fun kv=>decide (kv.1=k)).map (·.2)
noncomputable def putK (a8:List (κ×V)) (k:κ) (v:V):List (κ×V) :=
 if (a8.any fun kv=>decide (kv.1=k))=true then a8.map (fun kv=>if kv.1=k then (kv.1,v) else kv) else a8++[(k,v)]
theorem fj {p:κ×V} {r:List (κ×V)} {k:κ} (e:p.1=k):fi (p::r) k=some p.2:=by simp [fi,List.find?_cons,e]
theorem fk {p:κ×V} {r:List (κ×V)} {k:κ} (e:¬ p.1=k):fi (p::r) k=fi r k:=by simp [fi,List.find?_cons,e]
theorem iG (k:κ):∀ a8:List (κ×V),(a8.any fun kv=>decide (kv.1=k))=(fi a8 k).isSome
 | []=>rfl
 | p::r=>by
  rw [List.any_cons];by_cases e:p.1=k
  ·simp only [fj e,decide_eq_true e,Bool.true_or,Option.isSome_some]
  ·rw [fk e,decide_eq_false e,Bool.false_or];exact iG k r
theorem BP (k j:κ) (y:V):∀ a8:List (κ×V),fi (a8.map fun kv=>if kv.1=k then (kv.1,y) else kv) j=(fi a8 j).map fun x=>if j=k then y else x
 | []=>rfl
 | p::r=>by
  have ih:=BP k j y r;rw [List.map_cons];by_cases h:p.1=k
  ·rw [if_pos h];by_cases e:p.1=j
   ·rw [fj (p:=(p.1,y)) e,fj e,Option.map_some,if_pos (e.symm.trans h)]
   ·rw [fk (p:=(p.1,y)) e,fk e,ih]
  ·rw [if_neg h];by_cases e:p.1=j
   ·rw [fj (p:=p) e,fj e,Option.map_some,if_neg (fun z=>h (e.trans z))]
   ·rw [fk (p:=p) e,fk e,ih]
theorem zz (k j:κ) (y:V):∀ a8:List (κ×V),fi a8 k=none→fi (a8++[(k,y)]) j=if j=k then some y else fi a8 j
 | [],_=>by
  by_cases e:k=j
  ·rw [if_pos e.symm];exact fj (p:=(k,y)) e
  ·rw [if_neg (fun z=>e z.symm)];exact fk (p:=(k,y)) e
 | p::r,hn=>by
  rw [List.cons_append];have hk:¬ p.1=k:=fun z=>by rw [fj z] at hn;cases hn
  rw [fk hk] at hn;have ih:=zz k j y r hn;by_cases e:p.1=j
  ·rw [fj e,fj e,if_neg (fun z=>hk (e.trans z))]
  ·rw [fk e,fk e,ih]
theorem BQ (a8:List (κ×V)) (k j:κ) (y:V):fi (putK a8 k y) j=if j=k then some y else fi a8 j:=by
 unfold putK;by_cases a:(a8.any fun kv=>decide (kv.1=k))=true
 ·rw [if_pos a,BP];rw [iG] at a;by_cases e:j=k
  ·obtain ⟨x,hx⟩:=Option.isSome_iff_exists.mp a;rw [if_pos e,e,hx,Option.map_some,if_pos rfl]
  ·rw [if_neg e];cases fi a8 j with
   | none=>rfl
   | some x=>rw [Option.map_some,if_neg e]
 ·rw [if_neg a];refine zz k j y a8 ?_;rw [iG] at a;cases q:fi a8 k with
  | none=>rfl
  | some x=>rw [q] at a;exact (a rfl).elim
theorem vt (a8:List (κ×V)) (k:κ) (v:V):(putK a8 k v).length≤a8.length+1:=by
 unfold putK;split
 ·rw [List.length_map];omega
 ·rw [List.length_append,List.length_cons,List.length_nil];omega
theorem tD {a8:List (κ×V)} {k:κ} (v:V) (h:fi a8 k=none):putK a8 k v=a8++[(k,v)]:=by
 unfold putK;rw [iG,h];exact if_neg (by decide)
theorem uh.nA {o:Option V} {u:Option Value} (r:uh o u):o.isSome=u.isSome:=by
 cases o with
 | none=>cases u with
  | none=>rfl
  | some _=>exact (show False from r).elim
 | some _=>cases u with
  | none=>exact (show False from r).elim
  | some _=>rfl
theorem KV.val {a8:List (κ×V)} {vs:List (κ×Value)} (r:KV a8 vs) (k:κ):uh (fi a8 k) (valueAt vs k):=by
 unfold KV at r;induction r with
 | nil=>exact True.intro
 | @cons p q ps qs h t ih =>
  obtain ⟨h1,h2⟩:=h;by_cases e:p.1=k
  ·have e':q.1=k:=h1.symm.trans e;have b:valueAt (q::qs) k=some q.2:=by simp [valueAt,List.find?_cons,e']
   rw [fj e,b];exact h2
  ·have e':¬ q.1=k:=fun z=>e (h1.trans z);have b:valueAt (q::qs) k=valueAt qs k:=by simp [valueAt,List.find?_cons,e']
   rw [fk e,b];exact ih
theorem KV.any {a8:List (κ×V)} {vs:List (κ×Value)} (r:KV a8 vs) (k:κ):(a8.any fun kv=>decide (kv.1=k))=vs.any fun kv=>decide (kv.1=k):=by
 unfold KV at r;induction r with
 | nil=>rfl
 | cons h t ih=>rw [List.any_cons,List.any_cons,ih,h.1]
theorem KV.Mn {a8:List (κ×V)} {vs:List (κ×Value)} (r:KV a8 vs) (k:κ) {y:V} {u:Value} (ry:RelV y u) :
  KV (a8.map fun kv=>if kv.1=k then (kv.1,y) else kv) (vs.map fun kv=>if kv.1=k then (kv.1,u) else kv):=by
 unfold KV at r ⊢;induction r with
 | nil=>exact .nil
 | @cons p q ps qs h t ih =>
  rw [List.map_cons,List.map_cons];refine .cons ?_ ih;obtain ⟨h1,h2⟩:=h;by_cases e:p.1=k
  ·rw [if_pos e,if_pos (h1.symm.trans e)];exact ⟨h1,ry⟩
  ·rw [if_neg e,if_neg (fun z=>e (h1.trans z))];exact ⟨h1,h2⟩
theorem KV.put {a8:List (κ×V)} {vs:List (κ×Value)} (r:KV a8 vs) (k:κ) {y:V} {u:Value} (ry:RelV y u):KV (putK a8 k y) (stored vs k u):=by
 unfold putK stored;rw [r.any k];by_cases e:(vs.any fun kv=>decide (kv.1=k))=true
 ·rw [if_pos e,if_pos e];exact r.Mn k ry
 ·rw [if_neg e,if_neg e];exact Paired.snoc r ⟨rfl,ry⟩
theorem KV.length {a8:List (κ×V)} {vs:List (κ×Value)} (r:KV a8 vs):a8.length=vs.length:=Paired.length r
end
theorem BR {P:Program} {w:World} {k:Key} {u:Value} (r:RelV (kV k) u):(fP P w).is k u=true:=by
 cases k with
 | inl i=>obtain ⟨t,e⟩:=(show ∃ t,u=Value.int i t from r);subst e;exact Bo P w i t
 | inr x=>obtain ⟨t,e⟩:=(show ∃ t,u=Value.str x t from r);subst e;exact Bp P w x t
theorem zA {P:Program} {w:World}:∀ {ks:List Key} {us:List Value},bB (ks.map kV) us→ItemsAre (fP P w) ks us
 | [],_,r=>by rw [List.map_nil] at r;cases r;exact .nil
 | k::ks,_,r=>by
  rw [List.map_cons] at r;cases r with
  | cons h t=>exact .cons (BR h) (zA t)
noncomputable abbrev KT (H:Hp):List (List Key×V)→List (List Key×Addr×Value)→Prop:=Paired fun p q=>p.1=q.1∧H q.2.1=some (.tup (p.1.map kV))∧RelV p.2 q.2.2
theorem KT.val {H:Hp} {a8:List (List Key×V)} {xs:List (List Key×Addr×Value)} (r:KT H a8 xs) (k:List Key):uh (fi a8 k) ((atKey xs k).map (·.2)):=by
 induction r with
 | nil=>exact True.intro
 | @cons p q ps qs h t ih =>
  obtain ⟨h1,_,h2⟩:=h;by_cases e:p.1=k
  ·have e':q.1=k:=h1.symm.trans e;have b:atKey (q::qs) k=some q.2:=by simp [atKey,List.find?_cons,e']
   rw [fj e,b];exact h2
  ·have e':¬ q.1=k:=fun z=>e (h1.trans z);have b:atKey (q::qs) k=atKey qs k:=by simp [atKey,List.find?_cons,e']
   rw [fk e,b];exact ih
theorem KT.Mn {H:Hp} {a8:List (List Key×V)} {xs:List (List Key×Addr×Value)} (r:KT H a8 xs) (k:List Key) {y:V} {u:Value} (ry:RelV y u) :
  KT H (a8.map fun kv=>if kv.1=k then (kv.1,y) else kv) (xs.map (putAt k u)):=by
 induction r with
 | nil=>exact .nil
 | @cons p q ps qs h t ih =>
  rw [List.map_cons,List.map_cons];refine .cons ?_ ih;obtain ⟨h1,h2,h3⟩:=h;unfold putAt;by_cases e:p.1=k
  ·rw [if_pos e,if_pos (h1.symm.trans e)];exact ⟨h1,h2,ry⟩
  ·rw [if_neg e,if_neg (fun z=>e (h1.trans z))];exact ⟨h1,h2,h3⟩
theorem KT.put {H:Hp} {a8:List (List Key×V)} {xs:List (List Key×Addr×Value)} (r:KT H a8 xs) (k:List Key) {b:Addr} {y:V} {u:Value} (hb:H b=some (.tup (k.map kV))) (ry:RelV y u) :
  KT H (putK a8 k y) (storedH xs k b u):=by
 have e:(a8.any fun kv=>decide (kv.1=k))=(atKey xs k).isSome:=by
  rw [iG,(r.val k).nA,Option.isSome_map]
 unfold putK storedH;rw [e];by_cases q:(atKey xs k).isSome=true
 ·rw [if_pos q,if_pos q];exact r.Mn k ry
 ·rw [if_neg q,if_neg q];exact Paired.snoc r ⟨rfl,hb,ry⟩
theorem KT.keeps {H H':Hp} {a8:List (List Key×V)} {xs:List (List Key×Addr×Value)} (r:KT H a8 xs) (ht:∀ b ys,H b=some (.tup ys)→H' b=some (.tup ys)):KT H' a8 xs :=
 Paired.LQ r fun _ _ z=>⟨z.1,ht _ _ z.2.1,z.2.2⟩
section
variable {P:Program} {w:World} {H:Hp} {h:Heap} {a:Addr}
theorem Ld {u:HO} (ok:rX P w H h) (e:Rd H a u):fQ P w H h a u:=e.ok ok
theorem BS {a8:List (Key×V)} (ok:rX P w H h) (e:Rd H a (.dK a8)):a8.length≤sizeLine∧(a == sysModules)=false∧∃ vs,KV a8 vs∧h.DictOf (fP P w) a vs :=
 show fQ P w H h a (.dK a8) from Ld ok e
theorem Od {a8:List (Key×V)} (ok:rX P w H h) (e:H a=some (.dK a8)):a8.length≤sizeLine∧(a == sysModules)=false∧∃ vs,KV a8 vs∧h.DictOf (fP P w) a vs:=BS ok (.inl e)
theorem xl {ks:List Key} (ok:rX P w H h) (e:H a=some (.tup (ks.map kV))):(tupleKind (fP P w)).is h ks a:=by
 obtain ⟨_,its,r,o,h1,h2,n,h3⟩:=(show fQ P w H h a (.tup (ks.map kV)) from ok a _ e);exact ⟨o,its.toArray,n,h1,h2,h3,by simpa using zA r⟩
theorem BU {a8:List (List Key×V)} (ok:rX P w H h) (e:Rd H a (.dT a8)):a8.length≤sizeLine∧(a == sysModules)=false ∧
  ∃ xs,KT H a8 xs∧h.DictOfH (tupleKind (fP P w)) a xs:=by
 obtain ⟨z,y,xs,r,o,es,ep,h1,h2,h3,h4,h5⟩:=(show fQ P w H h a (.dT a8) from Ld ok e);refine ⟨z,y,xs,r,o,es,ep,h1,h2,h3,h4,fun x hx=>?_,h5⟩;have all:∀ {l:List (List Key×V)} {m:List (List Key×Addr×Value)},KT H l m→∀ x∈m,(tupleKind (fP P w)).is h x.1 x.2.1:=by
  intro l m q;induction q with
  | nil=>intro x hx;exact nomatch hx
  | @cons p q ps qs hq t ih =>
   intro x hx;rcases List.mem_cons.mp hx with e | hx
   ·subst e;exact xl ok (by rw [← hq.1];exact hq.2.1)
   ·exact ih x hx
 exact all r x hx
theorem Oe {a8:List (List Key×V)} (ok:rX P w H h) (e:H a=some (.dT a8)):a8.length≤sizeLine∧(a == sysModules)=false ∧
  ∃ xs,KT H a8 xs∧h.DictOfH (tupleKind (fP P w)) a xs:=BU ok (.inl e)
end
noncomputable def nB (H:Hp) (a:Addr) (y:V) (r:Option V):Prop :=
 (∃ a8 k,Rd H a (.dK a8)∧y=kV k∧r=fi a8 k)∨∃ a8 k b,Rd H a (.dT a8)∧y=.ref b∧H b=some (.tup (k.map kV))∧r=fi a8 k
noncomputable def De (H:Hp) (a:Addr) (y v:V) (H':Hp):Prop :=
 (∃ a8 k,H a=some (.dK a8)∧y=kV k∧a8.length < sizeLine∧H'=upd H a (.dK (putK a8 k v))) ∨
 ∃ a8 k b,H a=some (.dT a8)∧y=.ref b∧H b=some (.tup (k.map kV))∧a8.length < sizeLine∧H'=upd H a (.dT (putK a8 k v))
theorem nB.k {H:Hp} {a:Addr} {a8:List (Key×V)} {k:Key} (e:H a=some (.dK a8)):nB H a (kV k) (fi a8 k):=.inl ⟨a8,k,.inl e,rfl,rfl⟩
theorem De.k {H:Hp} {a:Addr} {a8:List (Key×V)} {k:Key} {v:V} (e:H a=some (.dK a8)) (hl:a8.length < sizeLine):De H a (kV k) v (upd H a (.dK (putK a8 k v))):=.inl ⟨a8,k,e,rfl,hl,rfl⟩
section
variable {X:Cx} {pins:List (Addr×Obj)} {σ:St} {H:Hp} {s:Shared} {a:Addr} {y v:V} {u r:Value} {o:Option V} {A:Around} {E:Value→Shared→Prop}
theorem Inv.UY (I:Inv X pins σ H s):sysModules < s.heap.objs.size:=by
 have h:mainGlobals < s.heap.objs.size:=(I.mod.glob.keeps I.bk).lt;exact Nat.lt_trans (by decide) h
theorem FQ {Q:Value→Shared→Prop} (hu:A.units+1 < cLine) (I:Inv X pins σ H s) (g:nB H a y (some v)) (ry:RelV y u) (h:∀ w' s',Inv X pins σ H s'→RelV v w'→Q w' s') :
  wpAny (model X.prog X.w) A (getItem (.ref a) u) Q E s:=by
 rcases g with ⟨a8,k,e,ey,l⟩ | ⟨a8,k,b,e,ey,eb,l⟩
 ·subst ey;obtain ⟨z,hd,vs,rel,dd⟩:=BS I.dz e;obtain ⟨w',hw,FI⟩:=uh.some_of (v:=v) (o:=valueAt vs k) (by rw [l];exact rel.val k);exact wpAny_getItem_of (BR ry) dd.mapOf hw (h w' _ (I.tok _) FI)
 ·subst ey;cases (show u=Value.ref b from ry);obtain ⟨z,hd,xs,rel,dd⟩:=BU I.dz e;obtain ⟨w',hw,FI⟩:=uh.some_of (v:=v) (o:=(atKey xs k).map (·.2)) (by rw [l];exact rel.val k);obtain ⟨p,hp,UZ⟩:=Option.map_eq_some_iff.mp hw;refine wpAny_getItem_heap (tupleKind_room_in1 hu) (xl I.dz eb) dd hp ?_;rw [UZ];exact h w' _ (I.tok _) FI
theorem QX {Q:Value→Shared→Prop} (hu:A.units+1 < cLine) (I:Inv X pins σ H s) (g:nB H a y o) (ry:RelV y u) (h:∀ s',Inv X pins σ H s'→Q (.bool o.isSome) s') :
  wpAny (model X.prog X.w) A (compareOp .In u (.ref a)) Q E s:=by
 rcases g with ⟨a8,k,e,ey,l⟩ | ⟨a8,k,b,e,ey,eb,l⟩
 ·subst ey;obtain ⟨z,hd,vs,rel,dd⟩:=BS I.dz e;refine wpAny_in_of (BR ry) hd dd.mapOf ?_;rw [← (rel.val k).nA,← l];exact h _ (I.tok _)
 ·subst ey;cases (show u=Value.ref b from ry);obtain ⟨z,hd,xs,rel,dd⟩:=BU I.dz e;refine wpAny_in_heap (tupleKind_room_in1 hu) (xl I.dz eb) hd dd ?_;have q:=(rel.val k).nA;rw [Option.isSome_map] at q;rw [← q,← l];exact h _ (I.tok _)
theorem J9 {Q:Value→Shared→Prop} (hu:A.units+1 < cLine) (I:Inv X pins σ H s) (g:nB H a y o) (ry:RelV y u) (h:∀ s',Inv X pins σ H s'→Q (.bool (!o.isSome)) s') :
  wpAny (model X.prog X.w) A (compareOp .NotIn u (.ref a)) Q E s:=by
 rcases g with ⟨a8,k,e,ey,l⟩ | ⟨a8,k,b,e,ey,eb,l⟩
 ·subst ey;obtain ⟨z,hd,vs,rel,dd⟩:=BS I.dz e;refine wpAny_notIn_of (BR ry) hd dd.mapOf ?_;rw [← (rel.val k).nA,← l];exact h _ (I.tok _)
 ·subst ey;cases (show u=Value.ref b from ry);obtain ⟨z,hd,xs,rel,dd⟩:=BU I.dz e;refine wpAny_notIn_heap (tupleKind_room_in1 hu) (xl I.dz eb) hd dd ?_;have q:=(rel.val k).nA;rw [Option.isSome_map] at q;rw [← q,← l];exact h _ (I.tok _)
theorem EJ {h':Heap} {t':Nat} {ob:HO} (I:Inv X pins σ H s) (mu:JS (H a)) (hs:Heap.SameBut a s.heap h') (he:∃ q,h'.get? a=some q) (new:fQ X.prog X.w (upd H a ob) h' a ob) :
  Inv X pins σ (upd H a ob) { s with heap:=h',toks:=t' } :=
 I.write (x:=a) (e:=a) mu (.inl rfl) (fun b q hb z=>(hs.2 b hb).trans z) he new
theorem Mo {P:Program} {w:World} {H':Hp} {h':Heap} {a8:List (Key×V)} {vs:List (Key×Value)} (z:a8.length≤sizeLine) (hd:(a == sysModules)=false) (rel:KV a8 vs) (dd:h'.DictOf (fP P w) a vs) :
  fQ P w H' h' a (.dK a8):=⟨z,hd,vs,rel,dd⟩
theorem FR {H':Hp} {Q:Unit→Shared→Prop} (hu:A.units+1 < cLine) (I:Inv X pins σ H s) (g:De H a y v H') (ry:RelV y u) (rv:RelV v r) (h:∀ s',Inv X pins σ H' s'→Q () s') :
  wpAny (model X.prog X.w) A (setItem (.ref a) u r) Q E s:=by
 rcases g with ⟨a8,k,e,ey,l,eH⟩ | ⟨a8,k,b,e,ey,eb,l,eH⟩
 ·subst ey eH;obtain ⟨z,hd,vs,rel,dd⟩:=Od I.dz e;have hz:vs.length≤sizeLine:=by rw [← rel.length];exact z
  have hl:(putK a8 k v).length≤sizeLine:=by have:=vt a8 k v;omega
  refine wpAny_setItem_pairs (hsz:=hz) (BR ry) dd fun h' Pl hs=>h _ ?_;have he:∃ q,h'.get? a=some q:=let ⟨q,_,_,hq,_⟩:=Pl;⟨q,hq⟩;exact EJ I (by rw [e];exact True.intro) hs he (Mo hl hd (rel.put k rv) Pl)
 ·subst ey eH;cases (show u=Value.ref b from ry);obtain ⟨z,hd,xs,rel,dd⟩:=Oe I.dz e;have hz:xs.length≤sizeLine:=by rw [← Paired.length rel];exact z
  have hl:(putK a8 k v).length≤sizeLine:=by have:=vt a8 k v;omega
  refine wpAny_setItem_heap (hsz:=hz) (tupleKind_room_in1 hu) (xl I.dz eb) dd fun h' Pl hs=>h _ ?_;obtain ⟨q,es,ep,hq,h2,h3,h4,_,h5⟩:=Pl;refine EJ I (by rw [e];exact True.intro) hs ⟨q,hq⟩ ⟨hl,hd,_,(rel.put k eb rv).keeps fun c ys ec=>?_,q,es,ep,hq,h2,h3,h4,h5⟩;rw [aH (pz ec e (fun z=>nomatch z))];exact ec
end
section
variable {X:Cx} {pins:List (Addr×Obj)} {σ:St} {H:Hp} {s:Shared} {a:Addr} {a8:List (Key×V)} {k:Key} {u:Value} {A:Around} {E:Value→Shared→Prop}
end
noncomputable def Of (i:Expr):Prop:=∀ ov iv,subscripted i false ov iv=operate [ov,iv] (getItem ov iv)
theorem Ka {prog:Program} {w:World} {A:Around} {E:Value→Shared→Prop} {s:Shared} {env:Env} {value slice:Expr} {pos:Pos} {T id:String} {Q:Value→Shared→Prop}
  (hl:typeLookup (.type T) "__getitem__"=pure (some (.builtin id))) (hs:Of slice)
  (h:wpAny (model prog w) A (eval value env) (fun o cF=>wpAny (model prog w) A (eval slice env) (fun i nr=>nr.TypeIs o T∧wpAny (model prog w) A (getItem o i) Q E nr) E cF) E s) :
  wpAny (model prog w) A (eval (.Subscript value slice pos) env) Q E s:=by
 refine Subscript_ (wpAny_mono h (fun o cF Dd=>wpAny_mono Dd (fun i nr HM=>?_) fun _ _ x=>x) fun _ _ x=>x);obtain ⟨hT,HM⟩:=HM;unfold subscriptTail;refine wpAny_bind ?_;rw [getitemInPython_of_ne hT.not_modules];refine wpAny_bind (wpAny_specialOf hT hl ?_);have fin:wpAny (model prog w) A (subscripted slice false o i) (fun r FP=>wpAny (model prog w) A (letTemporaryGo value o r >>= fun _=>pure r) Q E FP) E nr:=by
  rw [hs o i];exact wpAny_operating (wpAny_mono HM (fun r FP J8=>wpAny_bind (wpAny_letTemporaryGo (wpAny_pure J8))) fun _ _ x=>x)
 first
  | exact wpAny_pure (wpAny_bind fin)
  | exact wpAny_bind (wpAny_pure (wpAny_bind fin))
  | exact wpAny_bind fin
theorem BV {X:Cx} {pins:List (Addr×Obj)} {σ:St} {H:Hp} {s:Shared} {a:Addr} {y:V} {o:Option V} (I:Inv X pins σ H s) (g:nB H a y o):s.TypeIs (.ref a) "dict":=by
 rcases g with ⟨a8,k,e,_,_⟩ | ⟨a8,k,b,e,_,_,_⟩
 ·obtain ⟨_,_,vs,_,dd⟩:=BS I.dz e;exact dd.typeIs
 ·obtain ⟨_,_,xs,_,dd⟩:=BU I.dz e;exact dd.typeIs
noncomputable def BW (td ty:TE):TE:=fun σ H Q=>td σ H fun x H1=>ty σ H1 fun y H2=>∃ a v,x=.ref a∧nB H2 a y (some v)∧Q v H2
noncomputable def QY (ty td:TE):TE:=fun σ H Q=>ty σ H fun y H1=>td σ H1 fun x H2=>∃ a o,x=.ref a∧nB H2 a y o∧Q (.bl o.isSome) H2
noncomputable def Kb (ty td:TE):TE:=fun σ H Q=>ty σ H fun y H1=>td σ H1 fun x H2=>∃ a o,x=.ref a∧nB H2 a y o∧Q (.bl (!o.isSome)) H2
noncomputable def Le (td ty tv:TE):TS:=fun D σ H=>tv σ H fun v H1=>td σ H1 fun x H2=>ty σ H2 fun y H3=>∃ a H4,x=.ref a∧De H3 a y v H4∧D.nx σ H4
section
variable {X:Cx} {o i e value:Expr} {pos pos' CZ:Pos} {td ty tv:TE}
theorem cu (hu:X.A.units+1 < cLine) (ho:PE X o td) (hi:PE X i ty) (hs:Of i):PE X (.Subscript o i pos) (BW td ty):=by
 intro pins s σ H Q I h;refine Ka PySem.F.slot_dict_getitem.lookup hs (dP (ho pins s σ H _ I h) fun u s1 ⟨x,H1,I1,rx,q1⟩=>dP (hi pins s1 σ H1 _ I1 q1) fun iv s2 ⟨y,H2,I2,ry,a,v,ex,g,q2⟩=>?_);subst ex;obtain rfl:u=Value.ref a:=rx;exact ⟨BV I2 g,FQ hu I2 g ry fun w' s3 I3 FI=>⟨v,H2,I3,FI,q2⟩⟩
theorem HP (hu:X.A.units+1 < cLine) (hi:PE X i ty) (ho:PE X o td):PC X .In i o (QY ty td):=by
 intro pins s σ H Q I h;refine dP (hi pins s σ H _ I h) fun iv s1 ⟨y,H1,I1,ry,q1⟩=>dP (ho pins s1 σ H1 _ I1 q1) fun u s2 ⟨x,H2,I2,rx,a,ov,ex,g,q2⟩=>?_;subst ex;obtain rfl:u=Value.ref a:=rx;exact QX hu I2 g ry fun s3 I3=>⟨.bl ov.isSome,H2,I3,rfl,q2⟩
theorem FU (hu:X.A.units+1 < cLine) (hi:PE X i ty) (ho:PE X o td):PC X .NotIn i o (Kb ty td):=by
 intro pins s σ H Q I h;refine dP (hi pins s σ H _ I h) fun iv s1 ⟨y,H1,I1,ry,q1⟩=>dP (ho pins s1 σ H1 _ I1 q1) fun u s2 ⟨x,H2,I2,rx,a,ov,ex,g,q2⟩=>?_;subst ex;obtain rfl:u=Value.ref a:=rx;exact J9 hu I2 g ry fun s3 I3=>⟨.bl (!ov.isSome),H2,I3,rfl,q2⟩
theorem iH (hu:X.A.units+1 < cLine) (ho:PE X o td) (hi:PE X i ty) (hv:PE X value tv) (hs:swapsWith value (some (.Subscript o i pos')) pos.line X.env=pure false) :
  PS X (.Assign [.Subscript o i pos'] value pos) (Le td ty tv):=by
 intro pins s σ H D I h;refine wpAny_Assign_Subscript (dP (hv pins s σ H _ I h) fun r s1 ⟨v,H1,I1,rv,q1⟩=>dP (ho pins s1 σ H1 _ I1 q1) fun u s2 ⟨x,H2,I2,rx,q2⟩=>dP (hi pins s2 σ H2 _ I2 q2) fun iv s3 ⟨y,H3,I3,ry,a,H4,ex,g,q3⟩=>?_) hs;subst ex;obtain rfl:u=Value.ref a:=rx;exact FR hu I3 g ry rv fun s4 I4=>⟨σ,H4,I4,q3⟩
end
theorem HQ {P:Program} {w:World} {H:Hp} (h:Heap) (hb:sysModules < h.objs.size):fQ P w H (h.push { cls:=.type "dict",data:=.dict #[] }) h.objs.size (.dK []) :=
 ⟨Nat.zero_le _,beq_eq_false_iff_ne.mpr (Ne.symm (Nat.ne_of_lt hb)),[],.nil,Heap.DictOf.new h⟩
noncomputable def HR:TE:=fun _ H Q=>∀ p,H p=none→Q (.ref p) (upd H p (.dK []))
section
variable {X:Cx} {pos:Pos}
theorem xm:PE X (.Dict [] [] pos) HR:=fun pins s σ H Q I h =>
 wpAny_Dict_empty ⟨.ref s.heap.objs.size,_,I.laid (a:=s.heap.objs.size) (o:=.dK []) (t':=s.toks) (fun _ _ q=>Heap.get?_push_of_some _ q) (Nat.le_refl _) (HQ s.heap I.UY),rfl,h _ (I.dz.fresh (Nat.le_refl _))⟩
end
section
variable {X:Cx} {pins:List (Addr×Obj)} {σ:St} {H:Hp} {s:Shared} {a:Addr} {y d:V} {u r:Value} {o:Option V} {A:Around} {E:Value→Shared→Prop}
end
section
variable {X:Cx} {o e f:Expr} {apos tu:Pos} {td ty tx:TE}
end
section
variable {X:Cx} {pins:List (Addr×Obj)} {σ:St} {H:Hp} {s:Shared} {a:Addr} {a8:List (Key×V)} {A:Around} {E:Value→Shared→Prop}
end
section
variable {X:Cx} {pins:List (Addr×Obj)} {σ:St} {H:Hp} {s:Shared} {a:Addr} {y:V} {u:Value} {A:Around} {E:Value→Shared→Prop}
end
section
variable {prog:Program} {w:World} {A:Around} {E:Value→Shared→Prop}
end
section
variable {X:Cx}
end
section
variable {X:Cx} {pins:List (Addr×Obj)} {σ:St} {H:Hp} {s:Shared} {h':Heap}
theorem Inv.FV {t':Nat} {ch:List Addr} {T:Addr} {ob:HO} (I:Inv X pins σ H s) (k:∀ b o,b∉ch→s.heap.get? b=some o→h'.get? b=some o) (hf:∀ b∈ch,kD X pins H b) (hT:s.heap.objs.size≤T)
  (new:fQ X.prog X.w (upd H T ob) h' T ob):Inv X pins σ (upd H T ob) { s with heap:=h',toks:=t' }:=by
 have hn:H T=none:=I.dz.fresh hT;have NL:∀ b u,H b=some u→b∉ch:=fun b u e z=>by
  have q:=(hf b z).1;rw [q] at e;cases e
 refine I.step (g':=s.gens) (d':=s.drawn) (ch:=ch) (fun b hb=>⟨(hf b hb).2.2.2.1,(hf b hb).2.1,(hf b hb).2.2.2.2.1,(hf b hb).2.2.2.2.2⟩) (fun b o _ _ hc e _=>k b o hc e) (fun b o _ _ hc e _=>⟨o.slots,k b o hc e⟩)
  (fun b o _ e n=>?_) (fun b o hc e=>⟨o,k b o hc e⟩) (fun b xs e=>?_) (fun b o u e=>?_) (fun b ps e=>⟨#[],?_⟩) (fun m hm=>?_) (fun b u e=>?_) I.bare
 ·rw [aH (Nat.ne_of_lt (Nat.lt_of_lt_of_le (Heap.lt_size e) hT))];exact n
 ·rw [aH (bf e hn)];exact e
 ·rw [aH (bf e hn)];exact e
 ·rw [aH (bf e hn),e];simp
 ·obtain ⟨o,es,ep,ho,r⟩:=hm;exact ⟨o,es,ep,k _ o (fun z=>(hf _ z).2.1 rfl) ho,r⟩
 ·by_cases hb:b=T
  ·subst hb;rw [au] at e;cases e;exact new
  ·rw [aH hb] at e;refine (I.dz b u e).yO (fun c v hc q=>k c v ?_ q) (fun c q=>by rw [aH (bf q hn)];exact q) fun c xs q=>by rw [aH (bf q hn)];exact q
   rcases hc with z | z
   ·rw [z];exact NL b u e
   ·exact NL c _ z
theorem Inv.lock {d:Addr} {u:HO} (I:Inv X pins σ H s) (h:H d=some u) (mu:JS (some u)):∃ od,Inv X pins σ (upd H d (.jD od u)) s:=by
 have x:=I.dz d u h;have ex:∃ od,s.heap.get? d=some od:=by
  cases u with
  | lst xs=>obtain ⟨_,_,_,_,e⟩:=x;exact ⟨_,e⟩
  | dK a8=>obtain ⟨_,_,_,_,o,_,_,e,_⟩:=x;exact ⟨o,e⟩
  | dT a8=>obtain ⟨_,_,_,_,o,_,_,e,_⟩:=x;exact ⟨o,e⟩
  | set S n=>obtain ⟨o,_,_,_,e,_⟩:=x;exact ⟨o,e⟩
  | ins C dx fs=>obtain ⟨_,_,_,e,_⟩:=x;exact ⟨_,e⟩
  | ext φ=>obtain ⟨_,⟨_,e⟩,_⟩:=x;exact ⟨_,e⟩
  | _=>exact False.elim mu
 obtain ⟨od,e⟩:=ex;have new:fQ X.prog X.w (upd H d (.jD od u)) s.heap d (.jD od u):=by
  refine ⟨e,x.yO (fun b v _ q=>q) (fun b q=>?_) fun b xs q=>?_⟩
  ·rw [aH (fun z=>by rw [z,h] at q;cases q;exact mu)];exact q
  ·rw [aH (fun z=>by rw [z,h] at q;cases q;exact mu)];exact q
 exact ⟨od,I.write (x:=d) (e:=d) (t':=s.toks) (h':=s.heap) (by rw [h];exact mu) (.inl rfl) (fun b v _ q=>q) ⟨od,e⟩ new⟩
theorem Inv.BX {d:Addr} {u:HO} (I:Inv X pins σ H s) (h:H d=some u) (mu:JS (some u)):∀ o' u',X.H₀ d≠some (.jD o' u'):=fun o' u' e=>by
 have q:=I.base.pA d o' u' e;rw [h] at q;cases q;exact mu
theorem Inv.unlock {d:Addr} {od:Obj} {u:HO} (I:Inv X pins σ H s) (h:H d=some (.jD od u)) (hn:∀ o' u',X.H₀ d≠some (.jD o' u')):Inv X pins σ (upd H d u) s:=by
 have Nj:∀ b o,H b=some o→(∀ o' u',o≠.jD o' u')→b≠d:=fun b o e kW z=>by
  rw [z,h] at e;cases e;exact kW _ _ rfl
 have neN:∀ b,H b=none→b≠d:=fun b e z=>by rw [z,h] at e;cases e
 refine ⟨I.ok,I.os,I.bare,⟨I.base.keep,I.base.slot,fun b o e n hx=>?_,I.base.there,fun b xs e=>?_,fun b o x e=>?_,fun b ps e=>?_⟩,I.loc,I.cell,?_,fun x c e=>?_,fun p hp=>?_,fun b o e=>?_,I.len⟩
 ·rw [aH (neN b (I.base.free b o e n hx))];exact I.base.free b o e n hx
 ·have q:=I.base.sY b xs e;rw [aH (Nj b _ q (fun _ _ z=>nomatch z))];exact q
 ·have q:=I.base.pA b o x e;rw [aH (fun z=>by rw [z] at e;exact hn _ _ e)];exact q
 ·obtain ⟨m,q⟩:=I.base.rY b ps e;exact ⟨m,by rw [aH (Nj b _ q (fun _ _ z=>nomatch z))];exact q⟩
 ·rw [aH (neN _ I.free)];exact I.free
 ·rw [aH (neN c (I.lW x c e))];exact I.lW x c e
 ·obtain ⟨e,n,r⟩:=I.pin p hp;exact ⟨e,by rw [aH (neN _ n)];exact n,r⟩
 ·by_cases hb:b=d
  ·rw [hb,au] at e;cases e;rw [hb];obtain ⟨_,x⟩:=I.dz d _ h;exact x.yO (fun c v _ q=>q) (fun c q=>by rw [aH (Nj c _ q (fun _ _ z=>nomatch z))];exact q) fun c xs q=>by rw [aH (Nj c _ q (fun _ _ z=>nomatch z))];exact q
  ·rw [aH hb] at e;exact (I.dz b o e).yO (fun c v _ q=>q) (fun c q=>by rw [aH (Nj c _ q (fun _ _ z=>nomatch z))];exact q) fun c xs q=>by rw [aH (Nj c _ q (fun _ _ z=>nomatch z))];exact q
end
noncomputable def Og (t:TS):TS:=fun D σ H=>∃ d u,H d=some u∧JS (some u)∧∀ od,t ⟨fun di H'=>H' d=some (.jD od u)∧D.nx di (upd H' d u),fun v H'=>H' d=some (.jD od u)∧D.rt v (upd H' d u),fun di H'=>H' d=some (.jD od u)∧D.bk di (upd H' d u),fun di H'=>H' d=some (.jD od u)∧D.ct di (upd H' d u)⟩ σ (upd H d (.jD od u))
noncomputable def HS (t:TE):TE:=fun σ H Q=>∃ d u,H d=some u∧JS (some u)∧∀ od,t σ (upd H d (.jD od u)) fun v H'=>H' d=some (.jD od u)∧Q v (upd H' d u)
section
variable {X:Cx}
theorem Kc {st:Stmt} {t:TS} (h:PS X st t):PS X st (Og t):=by
 intro pins s σ H D I hw;obtain ⟨d,u,hd,mu,hw⟩:=hw;obtain ⟨od,I1⟩:=I.lock hd mu;refine dP (h pins s σ _ _ I1 (hw od)) fun f s1 q=>?_;cases f with
 | next=>obtain ⟨di,H',I2,e,q⟩:=q;exact ⟨di,_,I2.unlock e (I.BX hd mu),q⟩
 | brk=>obtain ⟨di,H',I2,e,q⟩:=q;exact ⟨di,_,I2.unlock e (I.BX hd mu),q⟩
 | cont=>obtain ⟨di,H',I2,e,q⟩:=q;exact ⟨di,_,I2.unlock e (I.BX hd mu),q⟩
 | ret v=>obtain ⟨x,di,H',I2,r,e,q⟩:=q;exact ⟨x,di,_,I2.unlock e (I.BX hd mu),r,q⟩
theorem Kd {e:Expr} {t:TE} (h:PE X e t):PE X e (HS t):=by
 intro pins s σ H Q I hw;obtain ⟨d,u,hd,mu,hw⟩:=hw;obtain ⟨od,I1⟩:=I.lock hd mu;refine dP (h pins s σ _ _ I1 (hw od)) fun v s1 ⟨x,H1,I2,r,e2,q⟩=>?_;exact ⟨x,_,I2.unlock e2 (I.BX hd mu),r,q⟩
theorem HU {tg:Expr} {pins:List (Addr×Obj)} {σ:St} {H:Hp} {s:Shared} {R:It→Hp→Prop} {J:It} {tn:Nat→Heap→Prop} {tk:Nat} (I:Inv X pins σ H s) (o:Obj)
  (T:Turn X.prog X.w X.K tg J [s.heap.objs.size] s.heap.objs.size tn) (st:tn 0 (s.heap.push o)) (q:R J H):Qu X pins σ tg R (.ref s.heap.objs.size) { s with heap:=s.heap.push o,toks:=tk }:=by
 refine ⟨s.heap.objs.size,[s.heap.objs.size],tn,J,H,rfl,I.kept fun b ob e=>Heap.get?_push_of_some _ e,T,st,fun b hb=>?_,q⟩;have e:b=s.heap.objs.size:=by simpa using hb
 subst e;exact I.z4 (Nat.le_refl _) (I.dz.fresh (Nat.le_refl _))
end
section
variable {X:Cx} {tg:Expr}
end
section
variable {X:Cx} {tg:Expr}
end
section
variable {prog:Program} {w:World} {A:Around} {E:Value→Shared→Prop} {s:Shared}
theorem zB {d:Addr} {o:Obj} {es:Array DictEntry} {ep:Nat} {Q:Value→Shared→Prop} (hd:(d == sysModules)=false) (ho:s.heap.get? d=some o) (hc:o.ExactDict) (uw:o.data=.dict es ep)
  (hQ:Q (.ref s.heap.objs.size) { s with heap:=s.heap.push { cls:=.type "dict_keyiterator",data:=.fields #[.ref d,.int 0 0,.int es.size 0,.int ep 0] } }) :
  wpAny (model prog w) A (pyIter (.ref d)) Q E s:=by
 have hT:s.TypeIs (.ref d) "dict":=⟨o,ho,hc.1⟩;refine wpAny_pyIter_slot hT F.slot_dict_iter (wpAny_call_entry F.slot_dict_iter hT F.entry_dict_iter ?_ (F.args_dict_iter_1 _));unfold Builtin.«dict.__iter__»;refine wpAny_bind ?_;unfold Builtin.Dict.dictSlotNone;refine wpAny_bind (wpAny_notOrdered_dict hT ?_);show wpAny _ _ (pure (Value.ref d)) _ _ s;refine wpAny_pure ?_;show wpAny _ _ (Builtin.Dict.showsAll d >>= _) _ _ s;unfold Builtin.Dict.showsAll;rw [if_neg (by rw [hd];exact Bool.false_ne_true)];refine wpAny_bind (wpAny_pure ?_);refine wpAny_bind (wpAny_dictEntries ho uw ?_);refine wpAny_bind (wpAny_dictEpoch ho uw ?_);refine wpAny_bind (wpAny_newObj_type (wpAny_pure ⟨_,rfl,"dict_keyiterator",_,⟨_,Heap.get?_push_size _ rfl,rfl⟩,F.slot_dict_keyiterator_next.lookup,?_⟩));simpa [rawInt] using hQ
theorem yS {it d:Addr} {i n ep:Nat} {od:Obj} {es:Array DictEntry} {en:DictEntry} {Q:Option Value→Shared→Prop} (hit:s.heap.IsKeyIter it d i n ep) (vF:s.heap.get? d=some od) (Oh:od.data=.dict es ep)
  (hsz:es.size=n) (hx:es[i]?=some en) (hQ:∀ h',h'.IsKeyIter it d (i+1) n ep→Heap.SameBut it s.heap h'→Q (some en.key) { s with heap:=h' }):wpAny (model prog w) A (pyNext (.ref it)) Q E s:=by
 obtain ⟨o,ho,hc,hd⟩:=id hit;unfold pyNext;refine wpAny_bind (wpAny_attempt (wpAny_callSpecial?_slot (name:=Str.ofString "__next__") hit.typeIs F.slot_dict_keyiterator_next
  (wpAny_call_entry F.slot_dict_keyiterator_next hit.typeIs F.entry_dict_keyiterator_next ?_ (F.args_dict_keyiterator_next_1 _))))
 refine wpAny_bind (wpAny_pure ?_);refine wpAny_bind ?_;refine wpAny_bind ?_;first | refine wpAny_bind (wpAny_typeNameOfWhole_keyiter hit.typeIs (wpAny_pure ?_)) | refine wpAny_bind (wpAny_typeNameOf_keyiter hit.typeIs (wpAny_pure ?_))
 refine wpAny_bind (wpAny_fieldsOf ho hd ?_);have Mp:Builtin.Dict_items.ownsTuple "dict_keyiterator"=false:=by decide
 simp only [Mp,Bool.false_eq_true,if_false];show wpAny _ _ (if (Value.ref d == Value.none)=true then _ else _) _ _ s;rw [if_neg (show ¬ ((Value.ref d == Value.none)=true) from Bool.false_ne_true)];refine wpAny_bind (wpAny_pure ?_);refine wpAny_bind (wpAny_dictEntries vF Oh ?_);rw [if_neg (by rw [hsz];simp)];refine wpAny_bind (wpAny_pure ?_);refine wpAny_bind (wpAny_dictEpoch vF Oh ?_);rw [if_neg (by simp)];refine wpAny_pure ?_;obtain ⟨JD,QZ⟩:=Array.getElem?_eq_some_iff.mp hx;simp only [show ¬ ((i:Int) < 0) from by omega,if_false,Int.toNat_natCast,Array.getElem?_eq_getElem JD];refine wpAny_bind ?_;first | refine wpAny_bind (wpAny_typeNameOfWhole_keyiter hit.typeIs (wpAny_pure ?_)) | refine wpAny_bind (wpAny_typeNameOf_keyiter hit.typeIs (wpAny_pure ?_))
 refine wpAny_bind (wpAny_isOneOf_keyiter hit.typeIs ?_);show wpAny _ _ (setField (.ref it) 1 (rawInt ((i:Int)+1)) >>= _) _ _ s;refine wpAny_bind (wpAny_setField ho hd (by simp) ?_);have Ke:(s.heap.update it (Obj.mapFields (·.setIfInBounds 1 (rawInt ((i:Int)+1))))).IsKeyIter it d (i+1) n ep :=
  ⟨_,Heap.get?_update_self _ ho (Obj.isFreed_of_fields (Obj.data_mapFields hd _)),(Obj.cls_mapFields ..).trans hc,by rw [Obj.data_mapFields hd];simp [rawInt]⟩
 refine wpAny_bind (wpAny_holding ?_);refine wpAny_bind (wpAny_isOneOf_keyiter (s:={ s with heap:=s.heap.update it (Obj.mapFields (·.setIfInBounds 1 (rawInt ((i:Int)+1)))) }) Ke.typeIs ?_);show wpAny _ _ (pure es[i].key) _ _ _;rw [QZ];exact wpAny_pure (wpAny_pure ⟨_,rfl,wpAny_pure (hQ _ Ke (Heap.SameBut.update ..))⟩)
theorem tE {it d:Addr} {i n ep:Nat} {od:Obj} {es:Array DictEntry} {Q:Option Value→Shared→Prop} (hh:A.handled=none) (hit:s.heap.IsKeyIter it d i n ep) (vF:s.heap.get? d=some od) (Oh:od.data=.dict es ep)
  (hsz:es.size=n) (Mq:n≤i) (hQ:∀ h',Heap.ExtBut it s.heap h'→Q none { s with heap:=h' }):wpAny (model prog w) A (pyNext (.ref it)) Q E s:=by
 obtain ⟨o,ho,hc,hd⟩:=id hit;unfold pyNext;refine wpAny_bind (wpAny_attempt (wpAny_callSpecial?_slot (name:=Str.ofString "__next__") hit.typeIs F.slot_dict_keyiterator_next
  (wpAny_call_entry F.slot_dict_keyiterator_next hit.typeIs F.entry_dict_keyiterator_next ?_ (F.args_dict_keyiterator_next_1 _))))
 refine wpAny_bind (wpAny_pure ?_);refine wpAny_bind ?_;refine wpAny_bind ?_;first | refine wpAny_bind (wpAny_typeNameOfWhole_keyiter hit.typeIs (wpAny_pure ?_)) | refine wpAny_bind (wpAny_typeNameOf_keyiter hit.typeIs (wpAny_pure ?_))
 refine wpAny_bind (wpAny_fieldsOf ho hd ?_);have Mp:Builtin.Dict_items.ownsTuple "dict_keyiterator"=false:=by decide
 simp only [Mp,Bool.false_eq_true,if_false];show wpAny _ _ (if (Value.ref d == Value.none)=true then _ else _) _ _ s;rw [if_neg (show ¬ ((Value.ref d == Value.none)=true) from Bool.false_ne_true)];refine wpAny_bind (wpAny_pure ?_);refine wpAny_bind (wpAny_dictEntries vF Oh ?_);rw [if_neg (by rw [hsz];simp)];refine wpAny_bind (wpAny_pure ?_);refine wpAny_bind (wpAny_dictEpoch vF Oh ?_);rw [if_neg (by simp)];refine wpAny_pure ?_;have Q0:es.size≤i:=by rw [hsz];exact Mq
 simp only [show ¬ ((i:Int) < 0) from by omega,if_false,Int.toNat_natCast,Array.getElem?_eq_none Q0];refine wpAny_bind ?_;first | refine wpAny_bind (wpAny_typeNameOfWhole_keyiter hit.typeIs (wpAny_pure ?_)) | refine wpAny_bind (wpAny_typeNameOf_keyiter hit.typeIs (wpAny_pure ?_))
 show wpAny _ _ (setField (.ref it) 0 .none >>= _) _ _ s;refine wpAny_bind (wpAny_setField ho hd (by simp) ?_);show wpAny _ _ (newExc (.type "StopIteration") [] >>= _) _ _ _;refine wpAny_bind ?_;simp only [newExc,newTuple];refine wpAny_bind (wpAny_newObj_type ?_ (by size_fits));refine wpAny_bind (m:=firstArgMember _ _) (wpAny_of_eq (a:=Value.none) (by first | rfl | (simp only [firstArgMember];rfl)) ?_);refine wpAny_newObj_type ?_ (by size_fits);simp only [raiseNew];refine wpAny_bind (wpAny_handled ?_);rw [show A.in1.handled=none from hh];refine wpAny_bind (wpAny_pure (wpAny_throw ?_));refine wpAny_bind (wpAny_isInstance (T:="StopIteration") (b:=true) ⟨_,Heap.get?_push_size _ rfl,rfl⟩ isSubtype_stop ?_);exact wpAny_pure (hQ _ (((Heap.SameBut.update ..).extBut.push _).push _))
end
theorem Mr {κ:Type} {a8:List (κ×V)} {vs:List (κ×Value)} (h:KV a8 vs):∀ {i:Nat} {k:κ} {v:V},a8[i]?=some (k,v)→∃ u,vs[i]?=some (k,u)∧RelV v u:=by
 unfold KV at h;induction h with
 | nil=>intro i k v e;simp at e
 | @cons a b CS CU r t ih =>
  intro i k v e;cases i with
  | zero =>
   simp only [List.getElem?_cons_zero,Option.some.injEq] at e;subst e;refine ⟨b.2,?_,r.2⟩;simp only [List.getElem?_cons_zero];exact congrArg some (Prod.ext r.1.symm rfl)
  | succ j =>
   simp only [List.getElem?_cons_succ] at e ⊢;exact ih e
theorem Df {α β:Type} {G:α→β→Prop} {CS:List α} {CU:List β} (h:Paired G CS CU):∀ {i:Nat} {a:α},CS[i]?=some a→∃ b,CU[i]?=some b∧G a b:=by
 induction h with
 | nil=>intro i a e;simp at e
 | @cons a b CS CU r t ih =>
  intro i a' e;cases i with
  | zero =>
   simp only [List.getElem?_cons_zero,Option.some.injEq] at e;subst e;exact ⟨b,rfl,r⟩
  | succ j =>
   simp only [List.getElem?_cons_succ] at e ⊢;exact ih e
theorem HV {k:Key} {u:Value} (h:vg k u=true):RelV (kV k) u:=by
 rcases dE h with ⟨i,t,rfl,rfl⟩ | ⟨x,t,rfl,rfl⟩
 ·exact ⟨t,rfl⟩
 ·exact ⟨t,rfl⟩
section
variable {X:Cx} {pins:List (Addr×Obj)} {σ:St} {H:Hp} {s:Shared} {d:Addr} {o:Obj}
theorem Inv.Ms {a8:List (Key×V)} (I:Inv X pins σ H s) (h:H d=some (.jD o (.dK a8))) :
  (d == sysModules)=false∧s.heap.get? d=some o∧o.ExactDict∧∃ (es:Array DictEntry) (ep:Nat) (vs:List (Key×Value)),o.data=.dict es ep∧es.size=a8.length∧KV a8 vs∧s.heap.DictAt (fP X.prog X.w) d vs ep:=by
 obtain ⟨hd,z,hs,vs,kv,o',es,ep,ho,hx,yT,r⟩:=I.dz d _ h;rw [hd] at ho;cases ho;refine ⟨hs,hd,hx,es,ep,vs,yT,?_,kv,o,es,hd,hx,yT,r⟩;have l1:=r.2.1.length;have l2:a8.length=vs.length:=Paired.length kv;rw [Array.length_toList] at l1;omega
theorem Inv.Mt {a8:List (List Key×V)} (I:Inv X pins σ H s) (h:H d=some (.jD o (.dT a8))) :
  (d == sysModules)=false∧s.heap.get? d=some o∧o.ExactDict∧∃ (es:Array DictEntry) (ep:Nat),o.data=.dict es ep∧es.size=a8.length ∧
   ∀ (i:Nat) (k:List Key) (v:V),a8[i]?=some (k,v)→∃ (en:DictEntry) (q:Addr),es[i]?=some en∧en.key=.ref q∧H q=some (.tup (k.map kV)):=by
 obtain ⟨hd,z,hs,xs,pr,o',es,ep,ho,hx,yT,he,_⟩:=I.dz d _ h;rw [hd] at ho;cases ho;refine ⟨hs,hd,hx,es,ep,yT,?_,fun i k v e=>?_⟩
 ·have l1:es.size=xs.length:=size_of_entries he;have l2:a8.length=xs.length:=Paired.length pr;omega
 ·obtain ⟨b,hb,e1,e2,_⟩:=Df pr e;have q:=entry_at he i;rw [hb] at q;exact ⟨_,b.2.1,q,rfl,e2⟩
end
noncomputable def Oi (d:Addr) (o:Obj) (a8:List (Key×V)):It :=
 ⟨fun i H=>H d=some (.jD o (.dK a8))∧i < a8.length,fun i H x H'=>H'=H∧∃ k v,a8[i]?=some (k,v)∧x=kV k,fun i H=>H d=some (.jD o (.dK a8))∧a8.length≤i⟩
noncomputable def Oj (d:Addr) (o:Obj) (a8:List (List Key×V)):It :=
 ⟨fun i H=>H d=some (.jD o (.dT a8))∧i < a8.length,fun i H x H'=>H'=H∧∃ (k:List Key) (v:V) (q:Addr),a8[i]?=some (k,v)∧x=.ref q∧H q=some (.tup (k.map kV)),fun i H=>H d=some (.jD o (.dT a8))∧a8.length≤i⟩
theorem wo {o:Obj} {es Js:Array DictEntry} {ep Jt:Nat} (h:o.data=.dict es ep) (h':o.data=.dict Js Jt):Js=es∧Jt=ep:=by
 rw [h] at h';cases h';exact ⟨rfl,rfl⟩
section
variable {P:Program} {w:World} {K:PySem.W.Frag} {tg:Expr} {d:Addr} {o:Obj} {es:Array DictEntry} {ep:Nat}
theorem FX {a8:List (Key×V)} (it:Addr) (vF:o.data=.dict es ep):Turn P w K tg (Oi d o a8) [it] it (fun i h=>h.IsKeyIter it d i a8.length ep) where
 mem:=by simp
 obj:=fun i h st b hb=>by
  have e:b=it:=by simpa using hb
  subst e;obtain ⟨oi,e,c,dd⟩:=st;exact ⟨oi,e,fun v z=>by rw [dd] at z;cases z⟩
 keep:=fun i h h' st k=>st.at fun oi e=>k it (by simp) oi e
 item:=by
  intro X hP hw hK hc i pins s σ H E I hf st hg;subst hP hw hK;obtain ⟨hd,hi⟩:=hg;obtain ⟨f0,f1,f2,f3,f4,f5⟩:=hf it (by simp);obtain ⟨hs,Jv,hx,Js,Jt,vs,yT,hsz,kv,hm⟩:=I.Ms hd;obtain ⟨rfl,rfl⟩:=wo vF yT;obtain ⟨⟨k,v⟩,Ol⟩:∃ p,a8[i]?=some p:=⟨a8[i],List.getElem?_eq_getElem hi⟩;obtain ⟨u,hu,ru⟩:=Mr kv Ol;have hl:a8.length=vs.length:=Paired.length kv;rw [hl] at st;refine wpAny_pyNext_dict_item st hm hu fun key h' Hw GO sb=>?_;have I1:Inv X pins σ H { s with heap:=h' }:=I.turned (t':=s.toks) (fun b ob hb e=>(sb.2 b hb).trans e) f0 f1 f3 f4 f5;obtain ⟨oi,e,c,dd⟩:=id GO;refine ⟨key,rfl,Er (s:={ s with heap:=h' }) e c dd (by decide) ⟨kV k,H,I1,HV (show vg k key=true from Hw),⟨rfl,k,v,Ol,rfl⟩,?_,fun b hb=>(hf b hb).1⟩⟩;show h'.IsKeyIter it d (i+1) a8.length _;rw [hl];exact GO
 done:=by
  intro X hP hw hK hc i pins s σ H E I hf st hg;subst hP hw hK;obtain ⟨hd,hi⟩:=hg;obtain ⟨f0,f1,f2,f3,f4,f5⟩:=hf it (by simp);obtain ⟨hs,Jv,hx,Js,Jt,vs,yT,hsz,kv,hm⟩:=I.Ms hd;obtain ⟨rfl,rfl⟩:=wo vF yT;exact tE (I.ok.hd hc) st Jv yT hsz hi fun h' eb=>⟨rfl,I.turned (t':=s.toks) (fun b ob hb e=>eb b ob hb e) f0 f1 f3 f4 f5⟩
 self:=fun A i s Q E st h=>wpAny_pyIter_keyiter st h
theorem Dg {a8:List (List Key×V)} (it:Addr) (vF:o.data=.dict es ep):Turn P w K tg (Oj d o a8) [it] it (fun i h=>h.IsKeyIter it d i a8.length ep) where
 mem:=by simp
 obj:=fun i h st b hb=>by
  have e:b=it:=by simpa using hb
  subst e;obtain ⟨oi,e,c,dd⟩:=st;exact ⟨oi,e,fun v z=>by rw [dd] at z;cases z⟩
 keep:=fun i h h' st k=>st.at fun oi e=>k it (by simp) oi e
 item:=by
  intro X hP hw hK hc i pins s σ H E I hf st hg;subst hP hw hK;obtain ⟨hd,hi⟩:=hg;obtain ⟨f0,f1,f2,f3,f4,f5⟩:=hf it (by simp);obtain ⟨hs,Jv,hx,Js,Jt,yT,hsz,ent⟩:=I.Mt hd;obtain ⟨rfl,rfl⟩:=wo vF yT;obtain ⟨⟨k,v⟩,Ol⟩:∃ p,a8[i]?=some p:=⟨a8[i],List.getElem?_eq_getElem hi⟩;obtain ⟨en,q,QZ,Hw,hq⟩:=ent i k v Ol;refine yS st Jv yT hsz QZ fun h' GO sb=>?_;have I1:Inv X pins σ H { s with heap:=h' }:=I.turned (t':=s.toks) (fun b ob hb e=>(sb.2 b hb).trans e) f0 f1 f3 f4 f5;obtain ⟨oi,e,c,dd⟩:=id GO;exact ⟨en.key,rfl,Er (s:={ s with heap:=h' }) e c dd (by decide) ⟨.ref q,H,I1,Hw,⟨rfl,k,v,q,Ol,rfl,hq⟩,GO,fun b hb=>(hf b hb).1⟩⟩
 done:=by
  intro X hP hw hK hc i pins s σ H E I hf st hg;subst hP hw hK;obtain ⟨hd,hi⟩:=hg;obtain ⟨f0,f1,f2,f3,f4,f5⟩:=hf it (by simp);obtain ⟨hs,Jv,hx,Js,Jt,yT,hsz,ent⟩:=I.Mt hd;obtain ⟨rfl,rfl⟩:=wo vF yT;exact tE (I.ok.hd hc) st Jv yT hsz hi fun h' eb=>⟨rfl,I.turned (t':=s.toks) (fun b ob hb e=>eb b ob hb e) f0 f1 f3 f4 f5⟩
 self:=fun A i s Q E st h=>by
  refine wpAny_pyIter_slot st.typeIs F.slot_dict_keyiterator_iter (wpAny_call_entry F.slot_dict_keyiterator_iter st.typeIs F.entry_dict_keyiterator_iter ?_ (F.args_dict_keyiterator_iter_1 _));show wpAny _ _ (ret (.ref it)) _ _ s;exact wpAny_pure ⟨_,rfl,"dict_keyiterator",_,st.typeIs,F.slot_dict_keyiterator_next.lookup,h⟩
end
noncomputable def Om (td:TE):TI:=fun σ H R=>td σ H fun x H1=>∃ d o,x=.ref d∧((∃ a8,H1 d=some (.jD o (.dK a8))∧R (Oi d o a8) H1)∨∃ a8,H1 d=some (.jD o (.dT a8))∧R (Oj d o a8) H1)
section
variable {X:Cx} {tg e:Expr} {td:TE} {apos tu:Pos}
theorem Kf (he:PE X e td):PI X tg e (Om td):=by
 intro pins s σ H R I h;refine dP (he pins s σ H _ I h) fun u s1 ⟨x,H1,I1,rx,d,o,ex,q⟩=>?_;subst ex;obtain rfl:u=Value.ref d:=rx;rcases q with ⟨a8,hd,q⟩ | ⟨a8,hd,q⟩
 ·obtain ⟨hs,Jv,hx,es,ep,vs,yT,hsz,kv,hm⟩:=I1.Ms hd;refine zB hs Jv hx yT (HU (tk:=s1.toks) I1 _ (FX _ yT) ⟨_,Heap.get?_push_size _ rfl,rfl,?_⟩ q);rw [hsz] <;> rfl
 ·obtain ⟨hs,Jv,hx,es,ep,yT,hsz,ent⟩:=I1.Mt hd;refine zB hs Jv hx yT (HU (tk:=s1.toks) I1 _ (Dg _ yT) ⟨_,Heap.get?_push_size _ rfl,rfl,?_⟩ q);rw [hsz] <;> rfl
end
noncomputable def Lf (K:PySem.W.Frag) (a:Addr):It :=
 ⟨fun i H=>∃ (xs:List V) (x:V),bU K H a xs∧xs[i]?=some x,fun i H v H'=>∃ T x,v=.ref T∧H T=none∧H'=upd H T (.tup [.int (i:Nat),x])∧∀ xs,bU K H a xs→xs[i]?=some x,fun i H=>∃ xs:List V,bU K H a xs∧xs.length≤i⟩
theorem FY {P:Program} {w:World} {K:PySem.W.Frag} {elts:List Expr} {kk:Nat} {CZ:Pos} (a e it:Addr) :
  Turn P w K (.Tuple elts kk CZ) (Lf K a) [e,it] e (fun i h=>(∃ old,IsEnum h e it ((i:Nat):Int) old)∧h.IsListIter it a i∧e≠it) where
 mem:=by simp
 obj:=fun i h st b hb=>by
  obtain ⟨⟨old,he⟩,⟨o,ho,hc,hd⟩,_⟩:=st;have e':b=e∨b=it:=by simpa using hb
  rcases e' with z | z
  ·rw [z];exact ⟨_,he,fun v q=>nomatch q⟩
  ·rw [z];exact ⟨o,ho,fun v q=>by rw [hd] at q;cases q⟩
 keep:=fun i h h' st k=>let ⟨⟨old,he⟩,hi,kW⟩:=st;⟨⟨old,k e (by simp) _ he⟩,hi.at fun o q=>k it (by simp) o q,kW⟩
 item:=by
  intro X hP hw hK hc i pins s σ H E I hf st hg;subst hP hw hK;obtain ⟨⟨old,he⟩,hit,kW⟩:=st;obtain ⟨xs,x,hq,hx⟩:=hg;obtain ⟨its,rv,p,hz⟩:=I.list hq;obtain ⟨u,hu,ru⟩:=rv.get hx;have Sy:e < s.heap.objs.size:=Heap.lt_size he;have U3:it < s.heap.objs.size:=by obtain ⟨_,q,_⟩:=hit;exact Heap.lt_size q
  refine wpAny_pyNext_enum_item he hit p.isList (x:=u) (by simpa using hu) kW fun h' ho Ke hT hsz hk=>?_;refine ⟨_,rfl,wpAny_letOwnedTupleGo_enum (s:={ s with heap:=h',toks:=s.toks+1 }) ho fun LK Q1 sb=>?_⟩;have FZ:LK.get? s.heap.objs.size=some { cls:=.type "tuple",data:=.seq #[.int i s.toks,u] }:=(sb.2 _ (Nat.ne_of_gt Sy)).trans hT;have new:fQ X.prog X.w (upd H s.heap.objs.size (.tup [.int (i:Nat),x])) LK s.heap.objs.size (.tup [.int (i:Nat),x]) :=
   ⟨by show 2≤sizeLine;decide,[.int i s.toks,u],.cons ⟨_,rfl⟩ (.cons ru .nil),⟨_,FZ,rfl,_,rfl⟩⟩
  have I1:Inv X pins σ (upd H s.heap.objs.size (.tup [.int (i:Nat),x])) { s with heap:=LK,toks:=s.toks+1 } :=
   I.FV (ch:=[e,it]) (fun b ob hb q=>(sb.2 b (fun z=>hb (by simp [z]))).trans (hk b ob (fun z=>hb (by simp [z])) (fun z=>hb (by simp [z])) q)) hf (Nat.le_refl _) new
  refine ⟨.ref s.heap.objs.size,_,I1,rfl,⟨_,x,rfl,I.dz.fresh (Nat.le_refl _),rfl,fun ys hy=>by rw [I.Bs hy hq];exact hx⟩,⟨⟨u,?_⟩,Ke.at fun o q=>(sb.2 it (Ne.symm kW)).trans q,kW⟩,fun b hb=>?_⟩
  ·have e1:((i+1:Nat):Int)=(i:Int)+1:=by omega
   rw [e1];exact Q1
  ·have uq:b < s.heap.objs.size:=by
    have e':b=e∨b=it:=by simpa using hb
    rcases e' with z | z
    ·rw [z];exact Sy
    ·rw [z];exact U3
   rw [aH (Nat.ne_of_lt uq)];exact (hf b hb).1
 done:=by
  intro X hP hw hK hc i pins s σ H E I hf st hg;subst hP hw hK;obtain ⟨⟨old,he⟩,hit,kW⟩:=st;obtain ⟨xs,hq,hx⟩:=hg;obtain ⟨its,rv,p,hz⟩:=I.list hq;obtain ⟨f0,f1,f2,f3,f4,f5⟩:=hf it (by simp);have hl:=rv.length;exact wpAny_pyNext_enum_end (I.ok.hd hc) he hit p.isList (by simp;omega) fun h' eb=>⟨rfl,I.turned (t':=s.toks) (fun b o hb q=>eb b o hb q) f0 f1 f3 f4 f5⟩
 self:=fun A i s Q E st h=>let ⟨⟨_,he⟩,_⟩:=st;wpAny_pyIter_enum he h
noncomputable def Oo (K:PySem.W.Frag) (ta:TA):TI:=fun σ H R=>ta σ H fun vs H1=>∃ a xs,vs=[.ref a]∧bU K H1 a xs∧R (Lf K a) H1
theorem EK {X:Cx} {e:Expr} {ta:TA} {p pos CZ:Pos} {elts:List Expr} {kk:Nat} (hg:Gl X "enumerate") (hm:X.mg "enumerate"=none) (ha:PA X [e] ta) (hs:starEach [e] X.env=[(false,eval e X.env)]:=by rfl) :
  PI X (.Tuple elts kk CZ) (.Call (.Name "enumerate" p) [e] [] pos) (Oo X.K ta):=by
 intro pins s σ H R I h;refine Call_ (w6 I hg hm boot_enumerate (PyProof.Rows.callWith_type1 (dP (ha pos pins s σ H _ I h) fun us s1 ⟨vs,H1,I1,r1,q1⟩=>?_) hs rfl));obtain ⟨a,xs,ex,hq,q⟩:=q1;subst ex;cases r1 with
 | cons r rr =>
  cases rr;cases r;obtain ⟨its,rv,p',hz⟩:=I1.list hq;refine call_enumerate_list p'.isList fun h' he hit hsz hk=>wpAny_pyIter_enum he ?_;have I2:Inv X pins σ H1 { s1 with heap:=h' }:=I1.kept (t':=s1.toks) hk;refine ⟨s1.heap.objs.size+1,[s1.heap.objs.size+1,s1.heap.objs.size],_,_,H1,rfl,I2,FY a (s1.heap.objs.size+1) s1.heap.objs.size,⟨⟨.none,he⟩,hit,Nat.succ_ne_self _⟩,fun b hb=>?_,q⟩;have e':b=s1.heap.objs.size+1∨b=s1.heap.objs.size:=by simpa using hb
  have hle:s1.heap.objs.size≤b:=by
   rcases e' with z | z
   ·rw [z];exact Nat.le_add_right _ _
   ·rw [z];exact Nat.le_refl _
  exact I1.z4 hle (I1.dz.fresh hle)
end L2
section
namespace Q2
open PySem PyProof.Rows
end Q2
end
section
namespace TL
open PySem PySem.Builtin PySem.Builtin.Str PySem.StrLaws
end TL
end
namespace L2
open PySem PySem.Spec PyProof.Rows
section
variable {X:Cx} {pins:List (Addr×Obj)} {σ:St} {H:Hp} {s:Shared} {Q:VK}
end
section
variable {X:Cx}
end
section
variable {X:Cx} {o e:Expr} {to te:TE}
end
section
variable {X:Cx}
end
end L2
namespace Sz
open PySem PySem.W PySem.Calls PyProof.Rows
theorem vG {P:Params} {h:Heap}:∀ (ns:List Int) (vs:List Value),WellAll P h vs (ns.map WData.int)→IntsAre vs ns:=by
 intro ns;induction ns with
 | nil =>
  intro vs w;rw [List.map_nil] at w;cases w;exact .nil
 | cons n ns ih =>
  intro vs w;rw [List.map_cons] at w;cases w with
  | cons a b =>
   cases a;exact .cons _ _ (ih _ b)
section
variable {prog:Program} {w:World} {A:Around} {E:Value→Shared→Prop} {s:Shared} {K:Frag}
end
end Sz
namespace L2
open PySem PySem.Spec PyProof.Rows
theorem zC:∀ {vs:List Value} {ns:List Int},IntsAre vs ns→bB (ns.map V.int) vs
 | _,_,.nil=>.nil
 | _,_,.cons n t h=>.cons ⟨t,rfl⟩ (zC h)
noncomputable abbrev U4 {K:PySem.W.Frag} {h:Heap} (_:K.In h):PySem.W.Frag:=K
noncomputable def inClass (s:Stmt) (j:Nat):Stmt:=match s with
 | .ClassDef _ _ _ body _ _ _ _ _ _ _=>body.getD j (.Pass ⟨0,0,0,0⟩)
 | _=>.Pass ⟨0,0,0,0⟩
noncomputable def l9 (s:Stmt):Arguments:=match s with
 | .FunctionDef _ a _ _ _ _ _ _ _ _=>a
 | _=>{ posonlyargs:=[],args:=[],vararg:=none,kwonlyargs:=[],kw_defaults:=[],kwarg:=none,defaults:=[] }
noncomputable def gZ (s:Stmt):List Stmt:=match s with
 | .FunctionDef _ _ b _ _ _ _ _ _ _=>b
 | _=>[]
noncomputable def ak (s:Stmt):Scope:=match s with
 | .FunctionDef _ _ _ _ _ _ sc _ _ _=>sc
 | _=>{ kind:=.function,names:=[],isGenerator:=false,isCoroutine:=false }
noncomputable abbrev Bc:Bw:=fun _ _ _ _ _ _=>False
noncomputable abbrev E0:XK:=fun _ _ _=>False
theorem nD {X:Cx}:pE Bc X E0:=fun _ _ _ _ _ _ _ h=>h.elim
structure F0 (K:PySem.W.Frag) (x qual:Str) (st:Stmt) (f:Addr) (fd:FuncData):Prop where
 ex:∃ (oc:Value) (od:Option Addr) (kV doc pm:Value) (an:Option Addr) (bJ ct:Value) (FA:Array (Option Value)),
  fd=PySem.W.fnOf x qual (l9 st) (gZ st) (ak st) .none kV doc pm an bJ ct∧K.lookup f=some ⟨oc,od,.func fd,FA⟩∧PySem.W.codeIn K bJ qual=true
 kp:PySem.W.keepIn K (.ref f)=true
section
variable {P:Program} {w:World} {K:PySem.W.Frag} {mg:Str→Option Value} {base:Heap}
theorem F0.ok {x qual:Str} {st:Stmt} {f:Addr} {fd:FuncData} {N ps:List Str} {k:Nat} {sp:Sp} (F:F0 K x qual st f fd) (S:ay N ps (ak st)) (len:∀ vs H Q E,sp vs H Q E→vs.length=ps.length)
  (jR:∀ (bJ:Value) (A:Around) (outer:List Env) (s:Shared) (H:Hp) (vs:List V) (Q:VK) (E:XK),eu k (A.deeper (envOfC qual (ak st) s.heap.objs.size f bJ))→sp vs H Q E →
   ∃ t,Br (uo Bc P w K mg base N qual (ak st) f bJ A outer s H E).JV (gZ st) t∧t { nx:=fun _ H'=>Q .dR H',rt:=Q } (start N vs) H):qV P w K mg base Bc (k+1) f fd ps sp:=by
 obtain ⟨oc,od,kV,doc,pm,an,bJ,ct,FA,rfl,lk,nW⟩:=F.ex;refine La lk nW S len fun A outer s H vs Q E hr Cw=>?_;obtain ⟨t,h,q⟩:=jR bJ A outer s H vs Q E hr Cw;exact ⟨t,h.JV,q⟩
theorem F0.binds {x qual:Str} {st:Stmt} {f:Addr} {fd:FuncData} {ps:List Str} (F:F0 K x qual st f fd)
  (h:∀ (kV doc pm:Value) (an:Option Addr) (bJ ct:Value) (us:List Value),us.length=ps.length→bindArgs (PySem.W.fnOf x qual (l9 st) (gZ st) (ak st) .none kV doc pm an bJ ct) ⟨us,[]⟩=pure (ps.zip us)):Binds K fd ps []:=by
 obtain ⟨oc,od,kV,doc,pm,an,bJ,ct,FA,rfl,lk,nW⟩:=F.ex;exact .all (h kV doc pm an bJ ct)
theorem Ah {x qual:Str} {st:Stmt} {f:Addr} {oc:Value} {od an:Option Addr} {FA:Array (Option Value)} {kV doc pm bJ ct:Value} (l:K.lookup f=some ⟨oc,od,.func (PySem.W.fnOf x qual (l9 st) (gZ st) (ak st) .none kV doc pm an bJ ct),FA⟩)
  (c:PySem.W.codeIn K bJ qual=true) (k:PySem.W.keepIn K (.ref f)=true):F0 K x qual st f (PySem.W.fnOf x qual (l9 st) (gZ st) (ak st) .none kV doc pm an bJ ct):=⟨⟨oc,od,kV,doc,pm,an,bJ,ct,FA,rfl,l,c⟩,k⟩
end
theorem cQ {A:Around} {k:Nat} (hr:eu k A):A.units+1 < cLine:=Nat.lt_of_le_of_lt (Nat.add_le_add_left (by decide:1≤64) _) hr.units
section
variable {X:Cx}
theorem pv (i:Nat) {x:Str} {pos:Pos} (hN:X.N[i]?=some x:=by rfl) (hv:K5 X.env.scope x:=by first | exact Or.inl rfl | exact Or.inr (Or.inl rfl) | exact Or.inr (Or.inr rfl)) (hd:(x == ("__debug__":Str))=false:=by decide)
  (nW:(x == ("__classdict__":Str))=false:=by decide):PE X (.Name x pos) (tVar i):=LV hN hv hd nW
end
theorem ux {A B:Prop} (h:B):if false=true then A else B:=by
 rw [if_neg Bool.false_ne_true];exact h
theorem eO {A B:Prop} (h:A):if true=true then A else B:=by
 rw [if_pos rfl];exact h
noncomputable def aB (H H':Hp):Prop:=∀ b o,H b=some o→H' b=some o
theorem aB.refl (H:Hp):aB H H:=fun _ _ h=>h
theorem aB.trans {H H1 H2:Hp} (a:aB H H1) (b:aB H1 H2):aB H H2:=fun c o h=>b c o (a c o h)
theorem aB.free {H H':Hp} (e:aB H H') {l:Addr} (h:H' l=Option.none):H l=Option.none:=by
 cases q:H l with
 | none=>rfl
 | some o =>
  rw [e l o q] at h;cases h
theorem aB.seq {K:PySem.W.Frag} {H H':Hp} {a:Addr} {xs:List V} (e:aB H H') (h:bU K H a xs):bU K H' a xs:=by
 rcases h with (h | ⟨o,h⟩) | h
 ·exact .inl (.inl (e _ _ h))
 ·exact .inl (.inr ⟨o,e _ _ h⟩)
 ·exact .inr h
section
variable {κ:Type} [DecidableEq κ]
theorem HW {a8:List (κ×V)} {k:κ} (h:fi a8 k=none):¬ k∈a8.map (·.1):=by
 intro m;obtain ⟨p,hp,e⟩:=List.mem_map.mp m;have q:(a8.any fun kv=>decide (kv.1=k))=true:=List.any_eq_true.mpr ⟨p,hp,decide_eq_true e⟩;rw [iG,h] at q;exact absurd q (by simp)
theorem Kg {a8:List (κ×V)} {k:κ} {v:V} (h:fi a8 k=some v):k∈a8.map (·.1):=by
 have q:(a8.any fun kv=>decide (kv.1=k))=true:=by
  rw [iG,h];all_goals rfl
 obtain ⟨p,hp,e⟩:=List.any_eq_true.mp q;exact List.mem_map.mpr ⟨p,hp,of_decide_eq_true e⟩
theorem EL:∀ {l:List κ} {k:κ},l.Nodup→¬ k∈l→(l++[k]).Nodup
 | [],k,_,_=>by simp
 | a::r,k,h,hk=>by
  obtain ⟨h1,h2⟩:=List.nodup_cons.mp h;show (a::(r++[k])).Nodup;refine List.nodup_cons.mpr ⟨fun m=>?_,EL h2 fun m=>hk (List.mem_cons.mpr (Or.inr m))⟩;rcases List.mem_append.mp m with q | q
  ·exact h1 q
  ·exact hk (List.mem_cons.mpr (Or.inl (List.mem_singleton.mp q).symm))
theorem Kh {a8:List (κ×V)} {k:κ} (v:V) (hn:(a8.map (·.1)).Nodup) (h:fi a8 k=none):((putK a8 k v).map (·.1)).Nodup:=by
 rw [tD v h,List.map_append];exact EL hn (HW h)
end
noncomputable abbrev Ki:HO:=.ext fun _=>True
noncomputable def fR (H:Hp) (T:Addr) (qual:Str):Prop:=∃ ps:Array Value,H T=some (.zZ ps)∧TriplesOk ps.toList ∧
 ∀ pos cv,codeAmong pos ps.toList=some cv→∃ c o vs t,cv=.ref c∧H c=some (.jD o Ki)∧o.data=.fields vs∧vs[1]?=some (.str qual t)
theorem fR.of {H H':Hp} {T:Addr} {qual:Str} (t:fR H T qual) (k:∀ b o,H b=some o→H' b=some o):fR H' T qual:=by
 obtain ⟨ps,h1,h2,h3⟩:=t;refine ⟨ps,k _ _ h1,h2,fun pos cv e=>?_⟩;obtain ⟨c,o,vs,t,a,b,d⟩:=h3 pos cv e;exact ⟨c,o,vs,t,a,k _ _ b,d⟩
theorem fR.nil {H:Hp} {T:Addr} {qual:Str} (h:H T=some (.zZ #[])):fR H T qual:=⟨#[],h,trivial,fun _ _ e=>by cases e⟩
theorem rA {pos:Pos} {c:Value} {p:Pos}:∀ (l:List Value),TriplesOk l→∀ cv,codeAmong p (l++[rawInt pos.line,rawInt pos.col,c])=some cv→codeAmong p l=some cv∨cv=c
 | [],_,cv,e=>by
  have e':codeAmong p [rawInt pos.line,rawInt pos.col,c]=some cv:=e;unfold codeAmong rawInt at e';simp only at e';split at e'
  ·exact .inr (Option.some.inj e').symm
  ·cases e'
 | .int a t::.int b u::d::r,h,cv,e=>by
  have h':TriplesOk r:=h;have e':codeAmong p (.int a t::.int b u::d::(r++[rawInt pos.line,rawInt pos.col,c]))=some cv:=e;unfold codeAmong at e' ⊢;split at e'
  ·rename_i hc;rw [if_pos hc];exact .inl e'
  ·rename_i hc;rw [if_neg hc];exact rA r h' cv e'
theorem vv {pos:Pos} {c:Value}:∀ (l:List Value),TriplesOk l→TriplesOk (l++[rawInt pos.line,rawInt pos.col,c])
 | [],_=>trivial
 | .int a t::.int b u::d::r,h=>vv r h
structure j7 (mg:Str→Option Value) (base:Heap) (bJ:Value) (T:Addr):Prop where
 code:∃ c,bJ=.ref c∧PySem.W.CodeHd base c T
 bm:∃ bm ob,mg "__builtins__"=some (.ref bm)∧bm≠builtinsNs∧base.get? bm=some ob∧ob.cls=.type "module"∧ob.dict=some builtinsNs∧ob.data=.plain
structure Lg (qual:Str) (params:Arguments) (body:Expr) (scope:Scope) (cl:List (Str×Addr)) (f:Addr) (H:Hp) (h:Heap):Prop where
 free:H f=none
 obj:∃ c pm Kj oc vs t,h.get? f=some (PySem.W.kla_obj "<lambda>" qual params body scope cl pm c Kj)∧H c=some (.jD oc Ki)∧oc.data=.fields vs∧vs[1]?=some (.str qual t)
section
variable {X:Cx} {pins:List (Addr×Obj)} {σ:St} {H:Hp} {s:Shared} {T:Addr} {params:Arguments} {body:Expr} {scope:Scope} {pos:Pos}
theorem BY {R:Value→Shared→Prop} (I:Inv X pins σ H s) (L:j7 X.mg X.base X.env.code T) (hT:fR H T (X.env.qual++"<lambda>"))
  (HX:defaultsOf params X.env=([],[])) (EG:∀ y∈scope.names,y.2=.free→∃ c,X.env.cells.lookup y.1=some c)
  (h:∀ f H' s',Inv X pins σ H' s'→fR H' T (X.env.qual++"<lambda>")→(∀ b o,H b=some o→b≠T→H' b=some o) →
   Lg (X.env.qual++"<lambda>") params body scope (b7 X.env.cells scope.names []) f H' s'.heap→R (.ref f) s') :
  wpAny (model X.prog X.w) X.A (eval (.Lambda params body scope pos) X.env) R X.xe s:=by
 obtain ⟨ps,hP,ht,Ai⟩:=hT;obtain ⟨c,Lh,CH⟩:=L.code;obtain ⟨bm,ob,b1,b2,b3,b4,b5,b6⟩:=L.bm;have Dh:s.heap.get? T=some (PySem.W.tabObj ps):=I.dz T _ hP;have hg:s.heap.Ns mainGlobals X.mg:=I.mod.glob.keeps I.bk;have U5:mainGlobals≠T:=fun q=>by
  obtain ⟨o,es,ep,e,hd,_⟩:=hg;rw [q,Dh] at e;cases e;cases hd
 have Oq:=I.bk _ _ b3;have Q3:bm≠T:=fun q=>by rw [q,Dh] at Oq;cases Oq;cases b4
 have U6:bm≠mainGlobals:=fun q=>by
  obtain ⟨o,es,ep,e,hd,_⟩:=hg;rw [q,e] at Oq;cases Oq;rw [hd] at b6;cases b6
 have BA:s.heap.BuiltinsAt X.mg T:=⟨bm,ob,b1,b2,U6,Q3,Oq,b4,b5,b6⟩;have BO:=xk (scope:=scope) (env:=X.env) EG;refine PySem.W.kla_eval HX ?_;cases hf:codeAmong pos ps.toList with
 | some cv =>
  obtain ⟨c',oc,vs,t,rfl,Bb,uw,hq⟩:=Ai pos cv hf;refine PySem.W.kla_makeFunctionHit (mg:=X.mg) BO I.ok.glob hg Lh (CH.keeps I.bk) Dh ht hf BA fun Kj h' tk hk hsz=>?_;exact h h'.objs.size H _ (I.kept (t':=tk) fun b o e=>Heap.get?_push_of_some _ (hk b o e)) ⟨ps,hP,ht,Ai⟩ (fun b o e _=>e) ⟨I.dz.fresh hsz,c',_,Kj,oc,vs,t,Heap.get?_push_size _ rfl,Bb,uw,hq⟩
 | none =>
  refine PySem.W.kla_makeFunction (mg:=X.mg) BO I.ok.glob hg Lh (CH.keeps I.bk) Dh ht hf U5 BA fun c' Kj h' tk hx Mq iD Q4 SA=>?_;obtain ⟨c2,oc,vs,t,e2,CY,uw,hq⟩:=Q4;cases e2;have Li:H c'=none:=I.dz.fresh Mq;have SD:T < s.heap.objs.size:=Heap.lt_size Dh;have U7:c'≠T:=Nat.ne_of_gt (Nat.lt_of_lt_of_le SD Mq);let H':Hp:=upd (upd H c' (.jD oc Ki)) T (.zZ (ps++#[rawInt pos.line,rawInt pos.col,.ref c']))
  have eT:H' T=some (.zZ (ps++#[rawInt pos.line,rawInt pos.col,.ref c'])):=au;have ec:H' c'=some (.jD oc Ki):=by show upd _ T _ c'=_;rw [aH U7];exact au
  have eo:∀ b,b≠T→b≠c'→H' b=H b:=fun b h1 h2=>by show upd _ T _ b=_;rw [aH h1,aH h2]
  have kp:∀ b o,H b=some o→b≠T→H' b=some o:=fun b o e hb=>by rw [eo b hb (bf e Li)];exact e
  have kx:∀ b o,b≠T→s.heap.get? b=some o→(h'.push (PySem.W.kla_obj "<lambda>" (X.env.qual++"<lambda>") params body scope (b7 X.env.cells scope.names []) ((X.mg "__name__").getD .none) c' Kj)).get? b=some o :=
   fun b o hb e=>Heap.get?_push_of_some _ (hx b o hb e)
  have un:Un X.fs [] H H' s.heap (h'.push (PySem.W.kla_obj "<lambda>" (X.env.qual++"<lambda>") params body scope (b7 X.env.cells scope.names []) ((X.mg "__name__").getD .none) c' Kj)):=by
   refine ⟨fun b o e n _ _=>kx b o (fun q=>by rw [q,hP] at n;cases n) e,fun b o e n _ _=>⟨o.slots,kx b o (fun q=>by rw [q,hP] at n;cases n) e⟩,
    fun b o e n _=>by rw [eo b (fun q=>by rw [q,hP] at n;cases n) (Nat.ne_of_lt (Nat.lt_of_lt_of_le (Heap.lt_size e) Mq))];exact n,fun b o e _=>?_,fun b xs e=>kp b _ e (fun q=>by rw [q,hP] at e;cases e),
    fun b o u e=>kp b _ e (fun q=>by rw [q,hP] at e;cases e),fun b qs e=>?_⟩
   ·by_cases hb:b=T
    ·subst hb;exact ⟨_,Heap.get?_push_of_some _ SA⟩
    ·exact ⟨o,kx b o hb e⟩
   ·by_cases hb:b=T
    ·subst hb;rw [hP] at e;cases e;exact ⟨_,eT⟩
    ·exact ⟨#[],by rw [kp b _ e hb];simp⟩
  have HY:rX X.prog X.w H' (h'.push (PySem.W.kla_obj "<lambda>" (X.env.qual++"<lambda>") params body scope (b7 X.env.cells scope.names []) ((X.mg "__name__").getD .none) c' Kj)):=by
   intro a o e;by_cases ha:a=T
   ·subst ha;rw [eT] at e;cases e;exact Heap.get?_push_of_some _ SA
   ·by_cases hc:a=c'
    ·subst hc;rw [ec] at e;cases e;exact ⟨Heap.get?_push_of_some _ CY,trivial,⟨oc,Heap.get?_push_of_some _ CY⟩,fun _ _ _ _=>trivial⟩
    ·have e0:H a=some o:=by rw [← eo a ha hc];exact e
     refine (I.dz a o e0).yO (fun b u hb q=>kx b u (fun z=>?_) q) (fun b q=>kp b _ q (fun z=>by rw [z,hP] at q;cases q)) fun b xs q=>kp b _ q (fun z=>by rw [z,hP] at q;cases q);rcases hb with rfl | hb
     ·exact ha z
     ·rw [z,hP] at hb;cases hb
  have hsz:s.heap.objs.size≤h'.objs.size:=by omega
  have U8:H' h'.objs.size=none:=by rw [eo _ (Nat.ne_of_gt (Nat.lt_of_lt_of_le SD hsz)) (Nat.ne_of_gt iD)];exact I.dz.fresh hsz
  refine h h'.objs.size H' _ (I.un (t':=tk) un HY) ⟨_,eT,?_,fun p cv e=>?_⟩ kp ⟨U8,c',_,Kj,oc,vs,t,Heap.get?_push_size _ rfl,ec,uw,hq⟩
  ·rw [Array.toList_append];exact vv _ ht
  ·rw [Array.toList_append] at e;rcases rA _ ht cv e with e | e
   ·obtain ⟨c3,o3,Pm,t3,r1,r2,r3⟩:=Ai p cv e;exact ⟨c3,o3,Pm,t3,r1,kp _ _ r2 (fun q=>by rw [q,hP] at r2;cases r2),r3⟩
   ·exact ⟨c',oc,vs,t,e,ec,uw,hq⟩
end
theorem Un.Aj {fs:List Addr} {H H':Hp} {h h':Heap} (u:Un fs [] H H' h h') {b:Addr} {o:Obj} (e:h.get? b=some o) (n:H b=none):∃ o',h'.get? b=some o'∧o'.data=o.data:=by
 by_cases hb:b∈fs
 ·obtain ⟨sl,q⟩:=u.slot b o e n hb (by simp);exact ⟨_,q,rfl⟩
 ·exact ⟨o,u.keep b o e n hb (by simp),rfl⟩
noncomputable def xo (P:Program) (w:World) (K:PySem.W.Frag) (mg:Str→Option Value) (base:Heap) (CX:Bw) (k:Nat) (f:Addr) (ls:Sp) (s:Shared) (H:Hp):Prop :=
 H f=none∧(∃ o fd,s.heap.get? f=some o∧o.data=.func fd) ∧
 ∀ (fs:List Addr) (A:Around) (outer:List Env) (s':Shared) (H':Hp) (us:List Value) (vs:List V) (Q:VK) (E:XK),eu k A→um P w K mg base A outer s' H'→Un fs [] H H' s.heap s'.heap→bB vs us→ls vs H' Q E →
  codeAny (model P w) A (.call (.ref f) ⟨us,[]⟩) (CR CX outer P w H' s' Q E) s'
noncomputable def zD (CX:Bw) (P:Program) (w:World) (K:PySem.W.Frag) (mg:Str→Option Value) (base:Heap) (N:List Str) (qual:Str) (scope:Scope) (f:Addr) (cd:Value) (cl:List (Str×Addr)) (A:Around) (outer:List Env) (s:Shared) (H:Hp) (E:XK):Cx where
 prog:=P
 w:=w
 K:=K
 mg:=mg
 base:=base
 A:=A.deeper (PySem.W.envX qual scope s.heap.objs.size f cd cl)
 N:=N
 eg:=s
 H₀:=H
 env:=PySem.W.envX qual scope s.heap.objs.size f cd cl
 outer:=outer
 stack:=PySem.W.envX qual scope s.heap.objs.size f cd cl::outer
 ex:=[]
 calm:=true
 fn:=fun _=>false
 pn:=[]
 xe:=fun e s'=>wpAny (model P w) (A.deeper (PySem.W.envX qual scope s.heap.objs.size f cd cl)) («leaving» (PySem.W.envX qual scope s.heap.objs.size f cd cl) e) (fun _ zw=>CX outer H s E e zw) (fun e' zw=>CX outer H s E e' zw) s'
structure pK (N ps:List Str) (sc:Scope):Prop where
 kind:sc.kind=.function
 co:sc.isCoroutine=false
 gen:sc.isGenerator=false
 nd:N.Nodup
 pre:N.take ps.length=ps
 par:∀ x∈ps,sc.names.lookup x=some .local
 Q5:∀ (i:Nat) (x:Str),N[i]?=some x→ps.length≤i→sc.names.lookup x=some .free
 HZ:∀ y∈sc.names,y.2≠.cell
theorem Di {α β:Type} [BEq α] [LawfulBEq α]:∀ {ps:List α} {us:List β} {i:Nat} {x:α} {u:β},ps.Nodup→ps[i]?=some x→us[i]?=some u→(ps.zip us).reverse.lookup x=some u:=by
 intro ps us i x u nd h1 h2;have key:∀ (l:List (α×β)),(l.map (·.1)).Nodup→(x,u)∈l→l.lookup x=some u:=by
  intro l;induction l with
  | nil=>intro _ h;cases h
  | cons p r ih =>
   intro nd h;obtain ⟨a,b⟩:=p;rw [List.lookup_cons];rcases List.mem_cons.mp h with e | h
   ·cases e;simp
   ·have SE:=List.nodup_cons.mp nd;have:x≠a:=fun q=>SE.1 (by rw [← q];exact List.mem_map_of_mem (f:=(·.1)) h);rw [show (x == a)=false from by simpa using this];exact ih SE.2 h
 have sub:∀ (ps:List α) (us:List β),((ps.zip us).map (·.1)).Sublist ps:=by
  intro ps;induction ps with
  | nil=>intro us;simp
  | cons a r ih =>
   intro us;cases us with
   | nil=>simp
   | cons b q=>simpa using ih q
 refine key _ ?_ ?_
 ·rw [List.map_reverse];have SF:((ps.zip us).map (·.1)).Nodup:=nd.sublist (sub ps us);unfold List.Nodup at SF ⊢;rw [List.pairwise_reverse];exact SF.imp fun h=>Ne.symm h
 ·rw [List.mem_reverse];exact List.mem_of_getElem? (i:=i) (by rw [List.getElem?_zip_eq_some];exact ⟨h1,h2⟩)
section
variable {CX:Bw} {P:Program} {w:World} {K:PySem.W.Frag} {mg:Str→Option Value} {base:Heap} {N ps:List Str} {qual:Str} {scope:Scope} {f:Addr} {A:Around} {outer:List Env} {E:XK}
structure zE (N ps:List Str) (scope:Scope) (cl:List (Str×Addr)) (dH:List V) (s:Shared) (H:Hp):Prop where
 inj:∀ x y c,cl.lookup x=some c→cl.lookup y=some c→x=y
 has:∀ x,scope.names.lookup x=some .free→∃ c,cl.lookup x=some c
 cell:∀ x c,cl.lookup x=some c→(∃ v,s.heap.IsCell c v)∧H c=none
 val:∀ (i:Nat) (x:Str) (v:V),N[i+ps.length]?=some x→dH[i]?=some v→∃ c u,cl.lookup x=some c∧s.heap.IsCell c (some u)∧RelV v u
theorem zE.later {cl:List (Str×Addr)} {dH:List V} {s s':Shared} {H H':Hp} {fs:List Addr} (C:zE N ps scope cl dH s H) (u:Un fs [] H H' s.heap s'.heap):zE N ps scope cl dH s' H':=by
 have go:∀ {c:Addr} {v:Option Value},s.heap.IsCell c v→H c=none→s'.heap.IsCell c v∧H' c=none:=fun {c v} ⟨o,e,d⟩ n=>by
  obtain ⟨o',e',d'⟩:=u.Aj e n;exact ⟨⟨o',e',d'.trans d⟩,u.free c o e n (by simp)⟩
 refine ⟨C.inj,C.has,fun x c e=>?_,fun i x v h1 h2=>?_⟩
 ·obtain ⟨⟨v,hv⟩,n⟩:=C.cell x c e;exact ⟨⟨v,(go hv n).1⟩,(go hv n).2⟩
 ·obtain ⟨c,u,e,hc,r⟩:=C.val i x v h1 h2;exact ⟨c,u,e,(go hc (C.cell x c e).2).1,r⟩
theorem Kk {s:Shared} {H:Hp} {h1:Heap} {tk:Tok} {cd:Value} {cl:List (Str×Addr)} {us:List Value} {vs dH:List V} (S:pK N ps scope) (hd:A.handled=none) (e0:um P w K mg base A outer s H) (hl:vs.length=ps.length) (hN:N.length=ps.length+dH.length) (r:bB vs us)
  (C:zE N ps scope cl dH s H) (Lj:h1.Ns s.heap.objs.size (fun x=>(ps.zip us).reverse.lookup x)) (hk:∀ b o,s.heap.get? b=some o→h1.get? b=some o) :
  Inv (zD CX P w K mg base N qual scope f cd cl A outer s H E) [] ((vs++dH).map some) H { s with heap:=h1,toks:=tk }:=by
 have L4:∀ b:Addr,b∉(zD CX P w K mg base N qual scope f cd cl A outer s H E).ex:=fun b z=>absurd (show b∈([]:List Addr) from z) (by simp);refine ⟨⟨e0.mod,S.kind,rfl,rfl,Nat.le_refl _,C.inj,fun y hy=>?_,fun y c h=>(by cases h),fun _=>hd,Around.frames_deeper e0.frames,.inr ⟨rfl,rfl⟩,fun b z=>absurd z (L4 b),e0.bs,e0.GK,fun b _ _=>L4 b,fun b z=>absurd z (L4 b),e0.tj,e0.JU⟩,
  rfl,e0.bare,Un.kept hk,⟨_,Lj,fun i y v h1 h2 h3=>?_⟩,fun y c h=>?_,e0.dz.fresh (Nat.le_refl _),fun y c h=>(C.cell y c h).2,fun p hp=>absurd (show p∈([]:List (Addr×Obj)) from hp) (by simp),e0.dz.kept hk,?_⟩
 ·have hy:scope.names.lookup y=some .cell∨scope.names.lookup y=some .free:=hy;rcases hy with hy | hy
  ·exact absurd rfl (S.HZ _ (PySem.mem_of_lookup hy))
  ·exact C.has y hy
 ·have Pn:(vs++dH)[i]?=some v:=by
   rw [List.getElem?_map] at h2;cases e:(vs++dH)[i]? with
   | none=>rw [e] at h2;cases h2
   | some a=>rw [e] at h2;cases h2;rfl
  by_cases hi:i < vs.length
  ·rw [List.getElem?_append_left hi] at Pn;obtain ⟨u,hu,rv⟩:=r.get Pn;have hp:ps[i]?=some y:=by
    rw [← S.pre,List.getElem?_take_of_lt (by omega)];exact h1
   have Pf:ps.Nodup:=by rw [← S.pre];exact S.nd.sublist (List.take_sublist _ _)
   exact ⟨u,rv,.inl ⟨S.par y (List.mem_of_getElem? hp),Di Pf hp hu⟩⟩
  ·rw [List.getElem?_append_right (by omega)] at Pn;obtain ⟨c,u,e,hc,rv⟩:=C.val (i - vs.length) y v (by rw [show i - vs.length+ps.length=i by omega];exact h1) Pn;exact ⟨u,rv,.inr ⟨.inr (S.Q5 i y h1 (by omega)),c,e,hc.keeps hk⟩⟩
 ·obtain ⟨⟨v,hv⟩,_⟩:=C.cell y c h;exact ⟨v,hv.keeps hk⟩
 ·rw [List.length_map,List.length_append];show _=N.length;omega
theorem H0 {k:Nat} {params:Arguments} {body:Expr} {cl:List (Str×Addr)} {dH:List V} {ls:Sp} {s:Shared} {H:Hp} (S:pK N ps scope) (hN:N.length=ps.length+dH.length)
  (L:Lg qual params body scope cl f H s.heap) (C:zE N ps scope cl dH s H) (len:∀ vs H Q E,ls vs H Q E→vs.length=ps.length)
  (xp:∀ (pm bJ ct:Value) (us:List Value),us.length=ps.length→bindArgs (PySem.W.kla_fn "<lambda>" qual params body scope cl pm bJ ct) ⟨us,[]⟩=pure (ps.zip us))
  (jR:∀ (A:Around) (outer:List Env) (cd:Value) (s:Shared) (H:Hp) (vs:List V) (Q:VK) (E:XK),eu k (A.deeper (PySem.W.envX qual scope s.heap.objs.size f cd cl))→ls vs H Q E →
   ∃ t,PE (zD CX P w K mg base N qual scope f cd cl A outer s H E) body t∧t ((vs++dH).map some) H Q) :
  xo P w K mg base CX (k+1) f ls s H:=by
 obtain ⟨c,pm,Kj,oc,U9,t,SG,hc,uw,hq⟩:=L.obj;refine ⟨L.free,⟨_,_,SG,rfl⟩,fun fs A outer s' H' us vs Q E hr e0 un r Cw=>?_⟩;have hl:=len _ _ _ _ Cw;obtain ⟨of,Va,Q6⟩:=un.Aj SG L.free;have Bb:=un.pA _ _ _ hc;have Vc:s'.heap.get? c=some oc:=(e0.dz c _ Bb).1;have lim:s'.heap.NoLimit:=e0.mod.nolimit.keeps fun b o e=>(e0.bs b o e).1;have C':=C.later un;refine PySem.W.kla_callFunE hr.depth Va Q6 S.co S.gen rfl ⟨c,oc,U9,t,rfl,Vc,uw,hq⟩ ?_;rw [xp _ _ _ us (by rw [← r.length];exact hl)];have Q7:∀ y∈ps.zip us,scope.names.lookup y.1=some .local:=fun ⟨n,v⟩ hy=>S.par n (List.of_mem_zip hy).1;refine wpAny_pure (wpAny_newFunctionEnv S.HZ Q7 (fun Dd Lj Qb=>⟨lim.fresh _ Qb,?_⟩) S.kind);have Ot:∀ b o,s'.heap.get? b=some o→Dd.get? b=some o:=fun b o e=>Qb.extBut b o (Nat.ne_of_lt (Heap.lt_size e)) (Heap.get?_push_of_some _ e);show codeAny _ _ (.expr body (PySem.W.envX qual scope s'.heap.objs.size f (.ref c) cl)) _ _;obtain ⟨tt,ht,yJ⟩:=jR A outer (.ref c) s' H' vs Q E (hr.deeper _) Cw;have I:Inv (zD CX P w K mg base N qual scope f (.ref c) cl A outer s' H' E) [] ((vs++dH).map some) H' { s' with heap:=Dd,toks:=s'.toks+(ps.zip us).length }:=Kk S hr.hd e0 hl hN r C' Lj Ot;refine PySem.W.kla_codeExpr (wpAny_mono (ht [] _ _ H' _ I yJ) (fun u s2 hs=>?_) fun e s2 hs=>hs);obtain ⟨v,H2,J,rv,q⟩:=hs;exact ⟨v,H2,J.os,J.bare,J.base,J.dz,rv,q⟩
end
structure BZ (P:Program) (w:World) (K:PySem.W.Frag) (mg:Str→Option Value) (base:Heap) (CX:Bw) (k j:Nat) (f:Addr) (fd:FuncData) (ps:List Str) (sp:Sp→Sp):Prop where
 len:∀ ls vs H Q E,sp ls vs H Q E→vs.length=ps.length
 run:∀ (ls:Sp) (fl:Addr) (A:Around) (outer:List Env) (s:Shared) (H:Hp) (args:Args) (us:List Value) (vs:List V) (Q:VK) (E:XK),eu k A→um P w K mg base A outer s H→BindsTo s fd args (ps.zip us)→bB vs us →
  xo P w K mg base CX j fl ls s H→vs.getLast?=some (.ref fl)→sp ls vs H Q E →
  codeAny (model P w) A (.call (.ref f) args) (CR CX outer P w H s Q E) s
theorem Mu {CX:Bw} {P:Program} {w:World} {K:PySem.W.Frag} {mg:Str→Option Value} {base:Heap} {k j:Nat} {f:Addr} {name qual:Str} {params:Arguments} {body:List Stmt} {scope:Scope} {dV kV doc pm bJ ct oc:Value} {an od:Option Addr}
  {FA:Array (Option Value)} {N ps:List Str} {sp:Sp→Sp} (lk:K.lookup f=some ⟨oc,od,.func (PySem.W.fnOf name qual params body scope dV kV doc pm an bJ ct),FA⟩) (nW:PySem.W.codeIn K bJ qual=true) (S:ay N ps scope)
  (len:∀ ls vs H Q E,sp ls vs H Q E→vs.length=ps.length)
  (jR:∀ (ls:Sp) (fl:Addr) (A:Around) (outer:List Env) (s:Shared) (H:Hp) (vs:List V) (Q:VK) (E:XK),eu k (A.deeper (envOfC qual scope s.heap.objs.size f bJ))→xo P w K mg base CX j fl ls s H→vs.getLast?=some (.ref fl)→sp ls vs H Q E →
   ∃ t,Br (uo CX P w K mg base N qual scope f bJ A outer s H E) body t∧t { nx:=fun _ H'=>Q .dR H',rt:=Q } (start N vs) H) :
  BZ P w K mg base CX (k+1) j f (PySem.W.fnOf name qual params body scope dV kV doc pm an bJ ct) ps sp:=by
 refine ⟨len,fun ls fl A outer s H args us vs Q E hr e0 hb r hL B0 Cw=>?_⟩;have hl:=len _ _ _ _ _ Cw;have KX:K.In s.heap:=e0.mod.LS.keeps fun b o e=>(e0.bs b o e).1;have lim:s.heap.NoLimit:=e0.mod.nolimit.keeps fun b o e=>(e0.bs b o e).1;have HC:∀ y∈ps.zip us,scope.names.lookup y.1=some .local∨(scope.names.lookup y.1=some .cell∧((cellsFrom (s.heap.objs.size+1) scope.names []).lookup y.1).isSome=true):=fun ⟨n,v⟩ hy=>by
  rcases S.par n (List.of_mem_zip hy).1 with q | q
  ·exact .inl q
  ·exact .inr ⟨q,PySem.W.cellsFrom_some _ _ _ (.inl q)⟩
 refine codeAny_call_function hr.depth (KX _ _ lk) rfl S.co S.gen rfl (PySem.W.codeRec_of KX nW) (hb _ _ _ _ ?_);refine wpAny_newFunctionEnv_cells S.kind HC fun env he s1 x=>?_;subst he;refine ⟨lim.keeps x.toInCall.keep,codeAny_func ?_⟩;obtain ⟨t,ht,hq⟩:=jR ls fl A outer s H vs Q E (hr.deeper _) hL B0 Cw;have I:Inv (uo CX P w K mg base N qual scope f bJ A outer s H E) [] (start N vs) H s1:=zx S hr.hd e0 hl r x;refine wpAny_mono (ht [] s1 (start N vs) H _ I hq) (fun fl s' hs=>?_) fun e s' hs=>hs;have fin:∀ {di:St} {H':Hp} {v:V} {u:Value},Inv (uo CX P w K mg base N qual scope f bJ A outer s H E) [] di H' s'→RelV v u→Q v H'→CE outer P w H s Q u s' :=
  fun {di H' v u} J rv q=>⟨v,H',J.os,J.bare,J.base,J.dz,rv,q⟩
 cases fl with
 | ret u =>
  obtain ⟨v,di,H',J,rv,q⟩:=hs;exact fin J rv q
 | next =>
  obtain ⟨di,H',J,q⟩:=hs;exact fin (v:=V.dR) (u:=Value.none) J rfl q
 | brk =>
  obtain ⟨_,_,_,q⟩:=hs;exact False.elim q
 | cont =>
  obtain ⟨_,_,_,q⟩:=hs;exact False.elim q
theorem B1 {M:Model} {A:Around} {E:Value→Shared→Prop} {s:Shared} {at_:Pos} {g:Addr} {xs:List (Bool×Sem Value)} {ks:List (Option Str×Sem Value)} {Q:Value→Shared→Prop}
  (h:wpAny M A (evalArgs (.ref g) true xs ks) (fun y st=>(∃ o fd,st.heap.get? g=some o∧o.data=.func fd)∧wpAny M A (call (.ref g) y.pos y.kw) Q E st) E s) :
  wpAny M A (callWith at_ (.ref g) [] xs ks) Q E s:=by
 unfold callWith;apply wpAny_bind;apply wpAny_holding;refine wpAny_mono h ?_ (fun _ _ z=>z);rintro y st ⟨⟨o,fd,ho,uw⟩,F1⟩;apply wpAny_bind;apply wpAny_standAt;have after:∀ {m:Sem Value},wpAny M A m Q E st→wpAny M A (m >>= fun v=>holding [v] point >>= fun _=>pure v) Q E st:=by
  intro m hm;apply wpAny_bind;refine wpAny_mono hm ?_ (fun _ _ z=>z);intro v GO hv;exact wpAny_bind (wpAny_holding (wpAny_point (wpAny_pure hv)))
 have marked:∀ {mk},wpAny M A (callMarked mk (.ref g) y.pos y.kw) Q E st:=by
  intro mk;unfold callMarked;exact Calls.wpAny_keep F1
 cases SH:(xs.any (·.1) || ks.any (·.1.isNone));all_goals
  refine wpAny_bind (m:=keeperOf (.ref g)) ?_;unfold keeperOf;refine wpAny_bind (wpAny_load ho ?_);rw [uw];refine wpAny_pure ?_
 ·refine wpAny_ite ?_;split
  ·exact after F1
  ·exact after marked
 ·exact after marked
section
variable {X:Cx} {CX:Bw} {k j:Nat} {f:Addr} {fd:FuncData} {ps:List Str} {E:XK} {x:Str} {p pos Ak:Pos} {e e1 e2:Expr} {es:List Expr} {t:TA} {t1 t2:TE} {i:Nat}
theorem Ib {R:Value→Shared→Prop} {pins:List (Addr×Obj)} {σ:St} {H:Hp} {s:Shared} {v:V} (I:Inv X pins σ H s) (hN:X.N[i]?=some x) (hv:K5 X.env.scope x) (Mv:σ[i]?=some (some v)) (h:∀ u,RelV v u→R u s)
  (hd:(x == ("__debug__":Str))=false:=by decide) (nW:(x == ("__classdict__":Str))=false:=by decide):wpAny (model X.prog X.w) X.A (eval (.Name x pos) X.env) R X.xe s:=by
 obtain ⟨m,hn,hl⟩:=I.loc;obtain ⟨u,r,l⟩:=hl i x v hN Mv hv;have fin:=h u r;rcases l with ⟨hk,hm⟩ | ⟨hk,c,hc,w4⟩
 ·exact wpAny_Name (wpAny_loadName_local I.ok.kind hk hn hm fin) hd
 ·rcases hk with hk | hk
  ·exact wpAny_Name (wpAny_loadName_cell I.ok.kind hk hc w4 fin) hd
  ·exact wpAny_Name (wpAny_loadName_free I.ok.kind hk hc w4 fin nW) hd
noncomputable def Mw (i:Nat) (fl:Addr) (ls:Sp) (E:XK) (t:TA):TE:=fun σ H Q=>σ[i]?=some (some (.ref fl))∧t σ H fun vs H1=>ls vs H1 Q E
theorem Ic {fl:Addr} {ls:Sp} (hN:X.N[i]?=some x) (hv:K5 X.env.scope x) (hex:X.ex=[]) (L:xo X.prog X.w X.K X.mg X.base CX k fl ls X.eg X.H₀) (hr:eu k X.A) (hx:pE CX X E) (ha:PA X (e::es) t)
  (hd:(x == ("__debug__":Str))=false:=by decide) (nW:(x == ("__classdict__":Str))=false:=by decide)
  (he:starEach (e::es) X.env=(false,eval e X.env)::starEach es X.env:=by rfl) :
  PE X (.Call (.Name x p) (e::es) [] pos) (Mw i fl ls E t):=by
 intro pins s σ H Q I h;obtain ⟨Mv,h⟩:=h;refine wpAny_Call_Name_kw (Ib I hN hv Mv (fun u ru=>?_) hd nW);obtain rfl:u=Value.ref fl:=ru;obtain ⟨vh,⟨o,fd,ho,uw⟩,F1⟩:=L;have pa:=ha pos pins s σ H _ I h;refine B1 ?_;rw [he] at pa ⊢;refine Calls.evalArgs_plain (dP pa ?_);rintro us s1 ⟨vs,H1,I1,r,q⟩;have un:Un X.fs [] X.H₀ H1 X.eg.heap s1.heap:=by have:=I1.base;rw [hex] at this;exact this
 obtain ⟨o',h1,h2⟩:=un.Aj ho vh;refine ⟨⟨o',fd,h1,h2.trans uw⟩,?_⟩;refine wpAny_call (codeAny_mono (F1 X.fs X.A X.stack s1 H1 us vs Q E hr I1.Hz un r q) fun r s' hq=>?_);cases r with
 | error e=>exact hx pins σ H1 s1 e s' I1 hq
 | ok fl =>
  cases fl with
  | ret u=>exact I1.after hq
  | next=>exact False.elim hq
  | brk=>exact False.elim hq
  | cont=>exact False.elim hq
noncomputable def Mx (i:Nat) (f:Addr) (sp:Sp) (E:XK) (t:TA):TE:=fun σ H Q=>σ[i]?=some (some (.ref f))∧t σ H fun vs H1=>sp vs H1 Q E
theorem Ie {sp:Sp} (hN:X.N[i]?=some x) (hv:K5 X.env.scope x) (F:qV X.prog X.w X.K X.mg X.base CX k f fd ps sp) (hr:eu k X.A) (hk:PySem.W.keepIn X.K (.ref f)=true) (hb:Binds X.K fd ps []) (hx:pE CX X E) (ha:PA X (e::es) t)
  (hd:(x == ("__debug__":Str))=false:=by decide) (nW:(x == ("__classdict__":Str))=false:=by decide)
  (he:starEach (e::es) X.env=(false,eval e X.env)::starEach es X.env:=by rfl) (Ez:(backTo pos (starEach es X.env)).any (·.1)=false:=by rfl) :
  PE X (.Call (.Name x p) (e::es) [] pos) (Mx i f sp E t):=by
 intro pins s σ H Q I h;obtain ⟨Mv,h⟩:=h;refine wpAny_Call_Name_kw (Ib I hN hv Mv (fun u ru=>?_) hd nW);obtain rfl:u=Value.ref f:=ru;refine PySem.W.callWith_K (h₀:=X.base) I.ok.mod.LS hk (dP (ha pos pins s σ H _ I h) fun us s1 ⟨vs,H1,I1,r,q⟩=>⟨I1.CV,?_⟩) he Ez;exact HA (dvs:=[]) (ds:=[]) F hr hb .nil hx I1 r (by rw [List.append_nil];exact q)
theorem Ig {pins:List (Addr×Obj)} {σ:St} {H:Hp} {s:Shared} {N My:List Str} {scope:Scope} {dH:List V} {js:List Nat} (I:Inv X pins σ H s)
  (EG:∀ y∈scope.names,y.2=.free→∃ c,X.env.cells.lookup y.1=some c) (Mz:js.map (X.N[·]?)=(N.drop My.length).map some) (J7:∀ n∈N.drop My.length,(n,NameKind.free)∈scope.names)
  (Ih:∀ n∈N.drop My.length,X.env.kindOf n=some .cell) (Mv:js.map (σ[·]?)=dH.map fun v=>some (some v)) :
  zE N My scope (b7 X.env.cells scope.names []) dH s H:=by
 have mem:∀ x c,(b7 X.env.cells scope.names []).lookup x=some c→X.env.cells.lookup x=some c:=fun x c e=>by
  rcases jS (PySem.mem_of_lookup e) with h | ⟨h1,h2⟩
  ·cases h
  ·obtain ⟨c',e'⟩:=EG _ h1 rfl;have Vd:X.env.cells.lookup x=some c':=e';rw [h2,Vd];rfl
 have has:∀ x,(x,NameKind.free)∈scope.names→∃ c,(b7 X.env.cells scope.names []).lookup x=some c:=fun x h=>mem_lookup (lZ h);refine ⟨fun x y c h1 h2=>I.ok.inj x y c (mem x c h1) (mem y c h2),fun x h=>has x (PySem.mem_of_lookup h),fun x c h=>⟨I.cell x c (mem x c h),I.lW x c (mem x c h)⟩,fun i x v h1 h2=>?_⟩;have hx:(N.drop My.length)[i]?=some x:=by rw [List.getElem?_drop,Nat.add_comm];exact h1
 have Jw:=List.mem_of_getElem? hx;obtain ⟨j,hj,Ve⟩:∃ j,js[i]?=some j∧X.N[j]?=some x:=by
  have e:(js.map (X.N[·]?))[i]?=some (some x):=by rw [Mz,List.getElem?_map,hx];rfl
  rw [List.getElem?_map] at e;cases hj:js[i]? with
  | none=>rw [hj] at e;cases e
  | some j=>rw [hj] at e;exact ⟨j,rfl,Option.some.inj e⟩
 have Q8:σ[j]?=some (some v):=by
  have e:(js.map (σ[·]?))[i]?=some (some (some v)):=by rw [Mv,List.getElem?_map,h2];rfl
  rw [List.getElem?_map,hj] at e;exact Option.some.inj e
 have hk:=Ih x Jw;obtain ⟨m,hn,hl⟩:=I.loc;obtain ⟨u,r,l⟩:=hl j x v Ve Q8 (.inr (.inl hk));obtain ⟨c,hc⟩:=has x (J7 x Jw);rcases l with ⟨sT,_⟩ | ⟨_,c',Bb,w4⟩
 ·rw [hk] at sT;cases sT
 ·have e:=mem x c hc;rw [Bb] at e;cases e;exact ⟨c,u,hc,w4,r⟩
noncomputable def MA (T:Addr) (qual:Str) (js:List Nat) (ls:List V→Sp) (sp:Sp→Sp) (E:XK) (t1 t2:TE):TE:=fun σ H Q=>t1 σ H fun v1 H1=>t2 σ H1 fun v2 H2=>fR H2 T qual ∧
 ∃ dH:List V,js.map (σ[·]?)=(dH.map fun v=>some (some v))∧∀ fl H3,fR H3 T qual→(∀ b o,H2 b=some o→b≠T→H3 b=some o)→sp (ls dH) [v1,v2,.ref fl] H3 Q E
theorem jU {T:Addr} {N qs:List Str} {params:Arguments} {body:Expr} {scope:Scope} {js:List Nat} {ls:List V→Sp} {sp:Sp→Sp}
  (F:BZ X.prog X.w X.K X.mg X.base CX k (j+1) f fd ps sp) (hr:eu k X.A) (hg:Gl X x) (hm:X.mg x=some (.ref f)) (hk:PySem.W.keepIn X.K (.ref f)=true) (hb:Binds X.K fd ps []) (hx:pE CX X E)
  (h1:PE X e1 t1) (h2:PE X e2 t2) (L:j7 X.mg X.base X.env.code T) (HX:defaultsOf params X.env=([],[])) (S:pK N qs scope)
  (EG:∀ y∈scope.names,y.2=.free→∃ c,X.env.cells.lookup y.1=some c) (Mz:js.map (X.N[·]?)=(N.drop qs.length).map some) (J7:∀ n∈N.drop qs.length,(n,NameKind.free)∈scope.names)
  (Ih:∀ n∈N.drop qs.length,X.env.kindOf n=some .cell) (len:∀ dH vs H Q E,ls dH vs H Q E→vs.length=qs.length)
  (xp:∀ (cl:List (Str×Addr)) (pm bJ ct:Value) (us:List Value),us.length=qs.length→bindArgs (PySem.W.kla_fn "<lambda>" (X.env.qual++"<lambda>") params body scope cl pm bJ ct) ⟨us,[]⟩=pure (qs.zip us))
  (jR:∀ (dH:List V) (fl:Addr) (cl:List (Str×Addr)) (A:Around) (outer:List Env) (cd:Value) (s:Shared) (H:Hp) (vs:List V) (Q:VK) (E:XK),N.length=qs.length+dH.length →
   eu j (A.deeper (PySem.W.envX (X.env.qual++"<lambda>") scope s.heap.objs.size fl cd cl))→ls dH vs H Q E →
   ∃ t,PE (zD CX X.prog X.w X.K X.mg X.base N (X.env.qual++"<lambda>") scope fl cd cl A outer s H E) body t∧t ((vs++dH).map some) H Q)
  (C7:(x == ("__debug__":Str))=false:=by decide)
  (he:starEach [e1,e2,.Lambda params body scope Ak] X.env=[(false,eval e1 X.env),(false,eval e2 X.env),(false,eval (.Lambda params body scope Ak) X.env)]:=by rfl)
  (Q1:starEach [e1,e2,.Lambda params body scope Ak] X.env=(false,eval e1 X.env)::starEach [e2,.Lambda params body scope Ak] X.env:=by rfl)
  (Ez:(backTo pos (starEach [e2,.Lambda params body scope Ak] X.env)).any (·.1)=false:=by rfl) :
  PE X (.Call (.Name x p) [e1,e2,.Lambda params body scope Ak] [] pos) (MA T (X.env.qual++"<lambda>") js ls sp E t1 t2):=by
 intro pins s σ H Q I h;refine wpAny_Call_Name_kw (qE I hg hm ?_ C7);refine PySem.W.callWith_K (h₀:=X.base) I.ok.mod.LS hk ?_ Q1 Ez;rw [he];refine Calls.spliced_cons (dP (h1 pins s σ H _ I h) fun u1 s1 ⟨v1,H1,I1,r1,q1⟩=>?_);refine Calls.spliced_cons (dP (h2 pins s1 σ H1 _ I1 q1) fun u2 s2 ⟨v2,H2,I2,r2,hT,dH,MB,q2⟩=>?_);refine Calls.spliced_cons (BY I2 L hT HX EG fun fl H3 s3 I3 Ii kp Jr=>?_);refine Calls.spliced_nil ⟨I3.CV,?_⟩;have Ou:N.length=qs.length+dH.length:=by
  have e1:=congrArg List.length Mz;have e2:=congrArg List.length MB;rw [List.length_map,List.length_map,List.length_drop] at e1;rw [List.length_map,List.length_map] at e2;have e3:qs.length≤N.length:=by have:=congrArg List.length S.pre;rw [List.length_take] at this;omega
  omega
 have C:=Ig (My:=qs) I3 EG Mz J7 Ih MB;have LO:xo X.prog X.w X.K X.mg X.base CX (j+1) fl (ls dH) s3 H3:=H0 S Ou Jr C (len dH) (xp _) fun A outer cd s H vs Q E hr Kl=>jR dH fl _ A outer cd s H vs Q E Ou hr Kl;have rv:bB [v1,v2,.ref fl] [u1,u2,.ref fl]:=.cons r1 (.cons r2 (.cons rfl .nil));have q3:=q2 fl H3 Ii kp;have hl:([u1,u2,Value.ref fl]:List Value).length=ps.length:=by rw [← rv.length];exact F.len _ _ _ _ _ q3
 refine wpAny_call (codeAny_mono (F.run (ls dH) fl X.A X.stack s3 H3 ⟨[u1,u2,.ref fl],[]⟩ ([u1,u2,.ref fl]++[]) _ Q E hr I3.Hz (hb s3 _ I3.CV (by rw [List.append_nil];exact hl)) rv LO rfl q3) fun r s' hq=>?_);cases r with
 | error e=>exact hx pins σ H3 s3 e s' I3 hq
 | ok fl =>
  cases fl with
  | ret u=>exact I3.after hq
  | next=>exact False.elim hq
  | brk=>exact False.elim hq
  | cont=>exact False.elim hq
end
section
variable {X:Cx}
theorem Dj {bs:List Bool}:∀ {us:List Value},bB (bs.map V.bl) us→us=bs.map Value.bool:=by
 induction bs with
 | nil=>intro us r;cases r;rfl
 | cons b r ih =>
  intro us h;cases h with
  | cons h1 h2 =>
   have e:_=Value.bool b:=h1;rw [List.map_cons,← ih h2,e]
noncomputable def xq (i:Int):Int:=(Builtin.Int.intBits i:Nat)
theorem F2:Ph X "int.bit_length" (fun x xs H Q=>∃ i,x=.int i∧xs=[]∧Q (.int (xq i)) H):=by
 intro pins s σ H x xs v us Q I rx rv h;obtain ⟨i,rfl,rfl,q⟩:=h;obtain ⟨t,rfl⟩:=rx;cases rv;exact call_int_bit_length ⟨.int (xq i),H,I.tok _,⟨_,rfl⟩,q⟩
noncomputable def tBitlen (K:PySem.W.Frag) (to:TE):TE:=tBM0 K "int" (fun x xs H Q=>∃ i,x=.int i∧xs=[]∧Q (.int (xq i)) H) to
theorem nE {o:Expr} {to:TE} {apos tu:Pos} (ho:PE X o to) (BG:attributeBase o "bit_length" X.env (eval o X.env)=eval o X.env:=by rfl) (BH:(apos.endLine == tu.line)=true:=by rfl) :
  PE X (.Call (.Attribute o "bit_length" apos) [] [] tu) (tBitlen X.K to):=Mg PySem.F.plainAttrs_int PySem.F.slot_int_bit_length PySem.F.type_int_bit_length F2 ho BG BH
noncomputable def Dk (i j:Int):Prop:=0≤j∧(Builtin.Int.intBits i:Int)+j≤2 ^ 27
theorem d4:pC X (binaryOp .LShift) (rI Dk fun i j=>.int (i*2 ^ j.toNat)):=NU fun _ _ _ _ _ _ _ hc q=>lshift_int hc.1 hc.2 q
noncomputable def B3 (i j:Int):Prop:=0 < j∧j.natAbs.log2 < 9000
theorem tF:pC X (binaryOp .FloorDiv) (rI B3 fun i j=>.int (i / j)):=NU fun i j _ _ _ _ _ hc q=>by
 have h1:(0:Int) < j:=hc.1;exact floordiv_int (by omega) (by rw [Int.fdiv_eq_ediv_of_nonneg i (by omega)];exact q) (.inl (PyProof.noPylong_of_log2 hc.2))
noncomputable def cZ (mg:Str→Option Value) (x:Str) (i:Int):Prop:=∃ t,mg x=some (.int i t)
theorem aM {x:Str} {i:Int} {pos:Pos} (h:cZ X.mg x i) (hg:Gl X x:=by rfl) (hd:(x == ("__debug__":Str))=false:=by decide):PE X (.Name x pos) (tC (.int i)):=by
 obtain ⟨t,h⟩:=h;exact z0 hg h ⟨t,rfl⟩ hd
noncomputable def Al (K:PySem.W.Frag) (mg:Str→Option Value) (x:Str) (xs:List V):Prop:=∃ a,mg x=some (.ref a)∧∀ H,vi K H a xs
noncomputable def tGix (xs:List V) (te:TE):TE:=fun σ H Q=>te σ H fun v H1=>∃ i u,v=.int i∧Cz xs i=some u∧Q u H1
theorem bo {x:Str} {xs:List V} {e:Expr} {te:TE} {p pos:Pos} (h:Al X.K X.mg x xs) (he:PE X e te) (hg:Gl X x:=by rfl) (hs:ED e:=by exact fun _ _=>rfl) (hd:(x == ("__debug__":Str))=false:=by decide) :
  PE X (.Subscript (.Name x p) e pos) (tGix xs te):=by
 obtain ⟨a,hm,hS⟩:=h;intro pins s σ H Q I hq;refine Subscript_ (qE I hg hm (dP (he pins s σ H _ I hq) ?_) hd);rintro u s2 ⟨y,H2,I2,ry,i,w,rfl,ha,q⟩;exact Md (.Name x p) e pins s2 σ H2 (.ref a) (.int i) (.ref a) u Q I2 rfl ry ⟨a,xs,i,w,rfl,rfl,hS H2,ha,q⟩ (hs _ _)
end
structure ae (P:Program) (w:World) (K:PySem.W.Frag) (mg:Str→Option Value) (base:Heap) (k:Nat) (x:Str) (ps:List Str) (sp:Sp):Prop where
 ex:∃ f fd,mg x=some (.ref f)∧PySem.W.keepIn K (.ref f)=true∧Binds K fd ps []∧qV P w K mg base Bc k f fd ps sp
noncomputable def aX (K:PySem.W.Frag) (mg:Str→Option Value) (x:Str) (st:Stmt) (ps:List Str) (f:Addr) (fd:FuncData):Prop:=F0 K x x st f fd∧mg x=some (.ref f)∧Binds K fd ps []
section
variable {P:Program} {w:World} {K:PySem.W.Frag} {mg:Str→Option Value} {base:Heap} {k:Nat} {x:Str} {ps N:List Str} {sp XU:Sp} {st:Stmt} {f:Addr} {fd:FuncData}
theorem ae.of (D:aX K mg x st ps f fd) (S:ay N ps (ak st)) (len:∀ vs H Q E,sp vs H Q E→vs.length=ps.length)
  (jR:∀ (bJ:Value) (A:Around) (outer:List Env) (s:Shared) (H:Hp) (vs:List V) (Q:VK) (E:XK),eu k (A.deeper (envOfC x (ak st) s.heap.objs.size f bJ))→sp vs H Q E →
   ∃ t,Br (uo Bc P w K mg base N x (ak st) f bJ A outer s H E).JV (gZ st) t∧t { nx:=fun _ H'=>Q .dR H',rt:=Q } (start N vs) H):ae P w K mg base (k+1) x ps sp :=
 ⟨f,fd,D.2.1,D.1.kp,D.2.2,D.1.ok S len jR⟩
end
section
variable {X:Cx} {k:Nat} {x:Str} {ps:List Str} {sp:Sp} {e:Expr} {es:List Expr} {t:TA} {p pos:Pos}
theorem ah (c:ae X.prog X.w X.K X.mg X.base k x ps sp) (hr:eu k X.A) (ha:PA X (e::es) t) (hg:Gl X x:=by rfl) (C7:(x == ("__debug__":Str))=false:=by decide)
  (he:starEach (e::es) X.env=(false,eval e X.env)::starEach es X.env:=by rfl) (Ez:(backTo pos (starEach es X.env)).any (·.1)=false:=by rfl) :
  PE X (.Call (.Name x p) (e::es) [] pos) (tCall sp [] E0 t):=by
 obtain ⟨f,fd,h1,h2,h3,h4⟩:=c.ex;exact J3 h4 hr hg h1 h2 h3 .nil nD ha C7 he Ez
end
theorem cxOf_K {CX:Bw} {P:Program} {w:World} {K:PySem.W.Frag} {mg:Str→Option Value} {base:Heap} {N:List Str} {qual:Str} {scope:Scope} {f:Addr} {cd:Value} {A:Around} {outer:List Env} {s:Shared} {H:Hp} {E:XK} :
  (uo CX P w K mg base N qual scope f cd A outer s H E).K=K:=rfl
theorem xt:bootBuiltins "max"=Option.some (Value.builtin "max"):=by
 decide +kernel
theorem Am:bootBuiltins "min"=Option.some (Value.builtin "min"):=by
 decide +kernel
theorem Dl:bootBuiltins "abs"=Option.some (Value.builtin "abs"):=by
 decide +kernel
theorem jh:bootBuiltins "len"=Option.some (Value.builtin "len"):=by
 decide +kernel
theorem An:bootBuiltins "all"=Option.some (Value.builtin "all"):=by
 decide +kernel
theorem MD:bootBuiltins "any"=Option.some (Value.builtin "any"):=by
 decide +kernel
theorem Ij:bootBuiltins "sum"=Option.some (Value.builtin "sum"):=by
 decide +kernel
theorem Km:bootBuiltins "list"=Option.some (Value.type "list"):=by
 decide +kernel
noncomputable def EM (C:Addr) (H H':Hp) (x:Addr) (fs:List (Str×V)):Prop:=aB H H'∧H x=none∧∃ dx,H' x=some (.ins C dx fs)
noncomputable def Ik (C:Addr) (fns:List Str):Sp:=fun vs H Q _=>∃ (p dx:Addr) (ws:List V),vs=.ref p::ws∧ws.length=fns.length∧H p=some (.ins C dx []) ∧
 ∀ H':Hp,H' p=some (.ins C dx (fns.zip ws))→(∀ b,b≠p→H' b=H b)→Q .dR H'
structure lO (P:Program) (w:World) (K:PySem.W.Frag) (mg:Str→Option Value) (base:Heap) (k:Nat) (x:Str) (C:Addr) (fns:List Str):Prop where
 ex:∃ f fd,mg x=some (.ref C)∧Mk K C f∧Binds K fd ("self"::fns) []∧qV P w K mg base Bc k f fd ("self"::fns) (Ik C fns)
noncomputable def yU (C:Addr) (fns:List Str) (t:TA):TE:=fun σ H Q=>t σ H fun vs H1=>vs.length=fns.length∧∀ x H2,EM C H1 H2 x (fns.zip vs)→Q (.ref x) H2
section
variable {X:Cx} {k:Nat} {x:Str} {C:Addr} {fns:List Str} {e:Expr} {es:List Expr} {t:TA} {p pos:Pos}
theorem ME {H1:Hp} {Q:VK} {vs:List V} (hl:vs.length=fns.length) (h:∀ x H2,EM C H1 H2 x (fns.zip vs)→Q (.ref x) H2) :
  ∀ x dx,H1 x=none→H1 dx=none→dx≠x→Ik C fns (.ref x::(vs++[])) (upd (upd H1 dx (.own x)) x (.ins C dx [])) (fun v H2=>v=.dR∧Q (.ref x) H2) E0:=by
 intro x dx n1 n2 ne;refine ⟨x,dx,vs,by rw [List.append_nil],hl,au,fun H' h1 h2=>⟨rfl,h x H' ⟨fun b o e=>?_,n1,dx,h1⟩⟩⟩;have hb:b≠x:=bf e n1;rw [h2 b hb,aH hb,aH (bf e n2)];exact e
theorem dQ (m:lO X.prog X.w X.K X.mg X.base k x C fns) (hr:eu (k+1) X.A) (ha:PA X (e::es) t) (hg:Gl X x:=by rfl) (C7:(x == ("__debug__":Str))=false:=by decide)
  (he:starEach (e::es) X.env=(false,eval e X.env)::starEach es X.env:=by rfl) (Ez:(backTo pos (starEach es X.env)).any (·.1)=false:=by rfl) :
  PE X (.Call (.Name x p) (e::es) [] pos) (yU C fns t):=by
 obtain ⟨f,fd,hm,M,hb,F⟩:=m.ex;intro pins s σ H Q I h;refine wpAny_Call_Name_kw (qE I hg hm ?_ C7);refine PySem.W.callWith_K (h₀:=X.base) I.ok.mod.LS M.kp (dP (ha pos pins s σ H _ I h) ?_) he Ez;rintro us s1 ⟨vs,H1,I1,r,hl,q⟩;exact ⟨I1.CV,Bx (ds:=[]) (dvs:=[]) M F hr hb .nil nD I1 r (ME hl q)⟩
end
end L2
namespace HT
open PySem PyProof.Rows
theorem Il (A:Around) (s:Shared) (a:Int) (t:Tok) (c:Int) (u:Tok) (prog:Program) (w:World) (E:Value→Shared→Prop) (Q:Value→Shared→Prop) (h:Q (.bool (decide (c < a))) s) :
  wpAny (model prog w) A (richCompare .Gt (.int a t) (.int c u)) Q E s :=
 (PyProof.Rows.gt_int h:wpAny (model prog w) A (compareOp .Gt (.int a t) (.int c u)) Q E s)
end HT
namespace L2
open PySem PySem.Spec PyProof.Rows
noncomputable def jF (kf:V→Int):V→List V→V:=fun x0 l=>l.foldl (fun m b=>if kf b < kf m then b else m) x0
noncomputable def jG (kf:V→Int):V→List V→V:=fun x0 l=>l.foldl (fun m b=>if kf m < kf b then b else m) x0
section
variable {X:Cx} {σ:St} {eg:Shared} {H:Hp} {xs:List V} {kf:V→Int} {q l Ia S:Addr} {pins:List (Addr×Obj)} {R:Result→Shared→Prop}
noncomputable def qK (X:Cx) (σ:St) (eg:Shared) (H:Hp) (xs:List V) (kf:V→Int) (q:Addr):Prop :=
 ∀ (wY:List (Addr×Obj)) (s':Shared) (H':Hp) (x:V) (v:Value),x∈xs→RelV x v→Inv X wY σ H' s'→aB H H'→Un (wj X.stack) [] H H' eg.heap s'.heap →
  wpAny (model X.prog X.w) X.A.in1 (call (.ref q) [v]) (fun u zw=>∃ Im t,Inv X wY σ Im zw∧aB H' Im∧Un (wj X.stack) [] H' Im s'.heap zw.heap∧u=.int (kf x) t) (fun _ _=>False) s'
theorem Un.later {fs:List Addr} {H H':Hp} {h h1 h2:Heap} {b:Addr} (u:Un fs [] H H' h h1) (hb:h.objs.size≤b) (k:∀ c o,c≠b→h1.get? c=some o→h2.get? c=some o):Un fs [] H H' h h2 where
 keep:=fun c o e n hc hx=>k c o (Nat.ne_of_lt (Nat.lt_of_lt_of_le (Heap.lt_size e) hb)) (u.keep c o e n hc hx)
 slot:=fun c o e n hc hx=>by
  obtain ⟨sl,q⟩:=u.slot c o e n hc hx;exact ⟨sl,k c _ (Nat.ne_of_lt (Nat.lt_of_lt_of_le (Heap.lt_size e) hb)) q⟩
 free:=u.free
 there:=fun c o e hx=>by
  obtain ⟨o',q⟩:=u.there c o e hx;exact ⟨o',k c _ (Nat.ne_of_lt (Nat.lt_of_lt_of_le (Heap.lt_size e) hb)) q⟩
 sY:=u.sY
 pA:=u.pA
 rY:=u.rY
theorem tG {s':Shared} {H':Hp} {x:V} {v:Value} {oI oS:Obj} {Q:Value→Shared→Prop} {E:Value→Shared→Prop} (hq:qK X σ eg H xs kf q) (hx:x∈xs) (rx:RelV x v) (I:Inv X pins σ H' s') (sm:aB H H') (U:Un (wj X.stack) [] H H' eg.heap s'.heap)
  (fI:kD X pins H' Ia) (fS:kD X pins H' S) (gI:s'.heap.get? Ia=some oI) (gS:s'.heap.get? S=some oS) (dI:∀ v,oI.data≠.cell v) (dS:∀ v,oS.data≠.cell v)
  (h:∀ Im zw t,Inv X pins σ Im zw→aB H Im→Un (wj X.stack) [] H Im eg.heap zw.heap→kD X pins Im Ia→kD X pins Im S→zw.heap.get? Ia=some oI→zw.heap.get? S=some oS→Q (.int (kf x) t) zw) :
  wpAny (model X.prog X.w) X.A.in1 (call (.ref q) [v]) Q E s':=by
 have I2:Inv X (pins++[(Ia,oI),(S,oS)]) σ H' s':=I.wk fun p hp=>by
  rcases List.mem_append.mp hp with hp | hp
  ·exact I.pin p (List.mem_append_right _ hp)
  ·rcases List.mem_cons.mp hp with rfl | hp
   ·exact ⟨gI,fI.1,fI.2.1,fI.2.2.1,dI⟩
   ·rw [List.mem_singleton.mp hp];exact ⟨gS,fS.1,fS.2.1,fS.2.2.1,dS⟩
 refine wpAny_mono (hq _ s' H' x v hx rx I2 sm U) (fun u zw ⟨Im,t,J,Vf,U',e⟩=>?_) fun _ _ z=>z.elim;subst e;have pI:=J.pin (Ia,oI) (List.mem_append_right _ (List.mem_append_right _ (.head _)));have pS:=J.pin (S,oS) (List.mem_append_right _ (List.mem_append_right _ (.tail _ (.head _))));exact h Im zw t (J.wk fun p hp=>J.pin p (List.mem_append_right _ (List.mem_append_left _ hp))) (fun b o e=>Vf b o (sm b o e)) (U.trans U') ⟨pI.2.1,fI.2⟩ ⟨pS.2.1,fS.2⟩ pI.1 pS.1
theorem dU {s':Shared} {H':Hp} {b:Addr} {h':Heap} {tk:Nat} (I:Inv X pins σ H' s') (f:kD X pins H' b) (k:∀ c o,c≠b→s'.heap.get? c=some o→h'.get? c=some o):Inv X pins σ H' { s' with heap:=h',toks:=tk } :=
 I.turned k f.1 f.2.1 f.2.2.2.1 f.2.2.2.2.1 f.2.2.2.2.2
theorem Io (hh:X.A.handled=none) (hq:qK X σ eg H xs kf q) (hL:∀ H',aB H H'→bU X.K H' l xs) (F3:l≠Ia) (Dm:S≠Ia) (F4:eg.heap.objs.size≤Ia) (Q9:eg.heap.objs.size≤S) {x0:V}
  (hR:∀ v H' s',RelV (jF kf x0 xs) v→aB H H'→Inv X pins σ H' s'→R (.ok (.ret v)) s') :
  ∀ (r j:Nat) (s':Shared) (H':Hp) (xb:V) (vb:Value) (tb:Tok) (c:Nat),xs.length - j=r→j≤xs.length→Inv X pins σ H' s'→aB H H'→Un (wj X.stack) [] H H' eg.heap s'.heap→kD X pins H' Ia→kD X pins H' S →
   s'.heap.get? S=some (seqObj "list" #[vb,.int (kf xb) tb] c)→s'.heap.IsListIter Ia l j→RelV xb vb→xb=jF kf x0 (xs.take j) →
   codeAny (model X.prog X.w) X.A (.builtin "min.loop" ⟨[.ref Ia,.ref q,.ref S],[]⟩) R s':=by
 have pL:(toString "min"++toString ".loop":String) = "min.loop":=by decide
 intro r;induction r with
 | zero =>
  intro j s' H' xb vb tb c hr hj I sm U fI fS gS hit rb eb;have Jx:j=xs.length:=by omega
  obtain ⟨its,rv,pl,_⟩:=I.list (hL H' sm);have hsz:its.toArray.size=j:=by rw [List.size_toArray,← rv.length,Jx]
  have W:=Walks.list (prog:=X.prog) (w:=X.w) (A:=X.A.in1) hh Ia l F3 its.toArray;refine codeAny_builtin PySem.F.entry_min_loop ?_;rw [Around.under_plainId PySem.F.plain_min_loop _];show wpAny _ X.A.in1 (seqItems? (.ref S) >>= _) _ _ _;refine wpAny_bind (wpAny_seqItems gS rfl ?_);show wpAny _ X.A.in1 (tryCatch (pyNext (.ref Ia)) _ >>= _) _ _ _;refine wpAny_bind (wpAny_tryCatch (W.done _ _ _ ⟨by rw [hsz];exact hit,pl.isList⟩ fun h' F5 sT=>?_));have I1:Inv X pins σ H' { s' with heap:=h',toks:=F5 }:=dU I fI fun b o hb e=>sT b o (by simpa using hb) e;have Ip:h'.get? S=some (seqObj "list" #[vb,.int (kf xb) tb] c):=sT S _ (by simpa using Dm) gS;have s1:=Heap.SameBut.update h' S (Obj.mapSeq fun _=>(#[]:Array Value));show wpAny _ X.A.in1 (updateSeq S (fun _=>#[]) >>= _) _ _ _;refine wpAny_bind ?_;refine wpAny_updateSeq Ip rfl (wpAny_bind (wpAny_letGo (wpAny_pure ?_)));rw [Jx,List.take_length] at eb;exact hR vb H' _ (by rw [← eb];exact rb) sm (dU (s':={ s' with heap:=h',toks:=F5 }) I1 fS fun b o hb e=>(s1.2 b hb).trans e)
 | succ r ih =>
  intro j s' H' xb vb tb c hr hj I sm U fI fS gS hit rb eb;have iD:j < xs.length:=by omega
  obtain ⟨its,rv,pl,_⟩:=I.list (hL H' sm);have hsz:its.toArray.size=xs.length:=by rw [List.size_toArray,← rv.length]
  have W:=Walks.list (prog:=X.prog) (w:=X.w) (A:=X.A.in1) hh Ia l F3 its.toArray;refine codeAny_builtin PySem.F.entry_min_loop ?_;rw [Around.under_plainId PySem.F.plain_min_loop _];show wpAny _ X.A.in1 (seqItems? (.ref S) >>= _) _ _ _;refine wpAny_bind (wpAny_seqItems gS rfl ?_);show wpAny _ X.A.in1 (tryCatch (pyNext (.ref Ia)) _ >>= _) _ _ _;refine wpAny_bind (wpAny_tryCatch (W.item j _ _ _ (by rw [hsz];exact iD) ⟨hit,pl.isList⟩ fun v h' F5 hP Dn sT=>?_));have hv:its[j]?=some v:=by simpa using hP
  obtain ⟨x,MG⟩:∃ x,xs[j]?=some x:=⟨_,List.getElem?_eq_getElem iD⟩;obtain ⟨u0,MH,Iq⟩:=rv.get MG;have ev:u0=v:=Option.some.inj (MH.symm.trans hv);subst ev;have Jw:x∈xs:=List.mem_of_getElem? MG;obtain ⟨Kn,Dq,CY,vF⟩:=id Dn.1;have I1:Inv X pins σ H' { s' with heap:=h',toks:=F5 }:=dU I fI fun b o hb e=>sT b o (by simpa using hb) e;have U1:Un (wj X.stack) [] H H' eg.heap h':=U.later F4 fun b o hb e=>sT b o (by simpa using hb) e;have Ip:h'.get? S=some (seqObj "list" #[vb,.int (kf xb) tb] c):=sT S _ (by simpa using Dm) gS;show wpAny _ X.A.in1 (tryCatch (holding [u0] (call (.ref q) [u0])) _ >>= _) _ _ _;refine wpAny_bind (wpAny_tryCatch (wpAny_holding (tG hq Jw Iq I1 sm U1 fI fS Dq Ip (fun v e=>by rw [vF] at e;cases e) (fun v e=>by cases e) fun H2 s2 t2 I2 Ko U2 Kq F6 Kr F7=>?_)));have MI:s2.heap.IsListIter Ia l (j+1):=⟨Kn,Kr,CY,vF⟩;show wpAny _ X.A.in1 (tryCatch (holding [u0,.int (kf x) t2] (richCompare .Lt (.int (kf x) t2) (.int (kf xb) tb) >>= _)) _ >>= _) _ _ _;refine wpAny_bind (wpAny_tryCatch (wpAny_holding (wpAny_bind (HT.BB _ _ _ _ _ _ _ _ _ _ ?_))));refine wpAny_bind (wpAny_holding (wpAny_truthy_bool ?_));refine wpAny_bind (wpAny_letGo (wpAny_pure ?_));have B4:∀ y,y=(if kf x < kf xb then x else xb)→y=jF kf x0 (xs.take (j+1)):=fun y e=>by
   rw [List.take_add_one,MG];unfold jF;rw [List.foldl_append,e,eb];rfl
  by_cases uq:kf x < kf xb
  ·have s1:=Heap.SameBut.update s2.heap S (Obj.mapSeq fun _=>#[u0,.int (kf x) t2]);obtain ⟨c2,FH⟩:∃ c2,(s2.heap.update S (Obj.mapSeq fun _=>#[u0,.int (kf x) t2])).get? S=some (seqObj "list" #[u0,.int (kf x) t2] c2):=⟨_,get?_update_seq F7 fun _=>#[u0,.int (kf x) t2]⟩;simp only [uq,decide_true,if_true];refine wpAny_bind ?_;refine wpAny_updateSeq F7 rfl (wpAny_bind (wpAny_letGo ?_));rw [pL];refine wpAny_pure ⟨plainId_quiet PySem.F.plain_min_loop _,ih (j+1) _ H2 x u0 t2 c2 (by omega) iD (dU (s':=s2) (tk:=s2.toks) I2 F6 fun b o hb e=>(s1.2 b hb).trans e) Ko (U2.later Q9 fun b o hb e=>(s1.2 b hb).trans e) Kq F6 FH ⟨Kn,(s1.2 Ia Dm.symm).trans Kr,CY,vF⟩ Iq (B4 x (by rw [if_pos uq]))⟩
  ·simp only [uq,decide_false,Bool.false_eq_true,if_false];refine wpAny_bind (wpAny_letGo ?_);rw [pL];exact wpAny_pure ⟨plainId_quiet PySem.F.plain_min_loop _,ih (j+1) s2 H2 xb vb tb c (by omega) iD I2 Ko U2 Kq F6 F7 MI rb (B4 xb (by rw [if_neg uq]))⟩
theorem Ks {s:Shared} {x0:V} {xr:List V} {Q E:Value→Shared→Prop} (hh:X.A.handled=none) (Kt:xs=x0::xr) (hq:qK X σ s H xs kf q) (hL:∀ H',aB H H'→bU X.K H' l xs) (I:Inv X pins σ H s) (iD:l < s.heap.objs.size)
  (hR:∀ v H' s',RelV (jF kf x0 xs) v→aB H H'→Inv X pins σ H' s'→Q v s') :
  wpAny (model X.prog X.w) X.A (call (.builtin "min") [.ref l] [(Str.ofString "key",.ref q)]) Q E s:=by
 have pL:(toString "min"++toString ".loop":String) = "min.loop":=by decide
 obtain ⟨its,rv,pl,_⟩:=I.list (hL H fun _ _ e=>e);refine kmk_tree PySem.F.kind_min PySem.F.plain_min PySem.F.entry_min (kmk_min_key _ _) ?_;show wpAny _ X.A.in1 (Builtin.Builtins.bindParams "min" ["key","default"] 0 ⟨[],[(Str.ofString "key",.ref q)]⟩ >>= _) _ _ s;refine wpAny_bind (wpAny_of_eq (show Builtin.Builtins.bindParams "min" ["key","default"] 0 ⟨[],[(Str.ofString "key",.ref q)]⟩=pure [some (.ref q),none] from rfl) ?_);refine wpAny_bind (wpAny_pure ?_);refine wpAny_bind (wpAny_pyIter_list pl.isList ?_);refine wpAny_bind (wpAny_newList ?_ (Nat.zero_le _));rw [pL];have hS:(s.heap.push { cls:=.type "list_iterator",data:=.fields #[.ref l,.int 0 0] }).objs.size=s.heap.objs.size+1:=size_push' ..;have F3:l≠s.heap.objs.size:=Nat.ne_of_lt iD;have Dm:(s.heap.push { cls:=.type "list_iterator",data:=.fields #[.ref l,.int 0 0] }).objs.size≠s.heap.objs.size:=by rw [hS];exact Nat.ne_of_gt (Nat.lt_succ_self _)
 refine wpAny_pure ⟨plainId_quiet PySem.F.plain_min_loop _,?_⟩;have kp:∀ b o,s.heap.get? b=some o→((s.heap.push { cls:=.type "list_iterator",data:=.fields #[.ref l,.int 0 0] }).push (seqObj "list" #[] 0)).get? b=some o:=fun b o e=>Heap.get?_push_of_some _ (Heap.get?_push_of_some _ e);have gI:((s.heap.push { cls:=.type "list_iterator",data:=.fields #[.ref l,.int 0 0] }).push (seqObj "list" #[] 0)).get? s.heap.objs.size=some { cls:=.type "list_iterator",data:=.fields #[.ref l,.int 0 0] } :=
  Heap.get?_push_of_some _ (Heap.get?_push_size _ rfl)
 have gS:((s.heap.push { cls:=.type "list_iterator",data:=.fields #[.ref l,.int 0 0] }).push (seqObj "list" #[] 0)).get? (s.heap.push { cls:=.type "list_iterator",data:=.fields #[.ref l,.int 0 0] }).objs.size=some (seqObj "list" #[] 0):=Heap.get?_push_size _ rfl;have fI:kD X pins H s.heap.objs.size:=I.z4 (Nat.le_refl _) (I.dz.fresh (Nat.le_refl _));have fS:kD X pins H (s.heap.push { cls:=.type "list_iterator",data:=.fields #[.ref l,.int 0 0] }).objs.size:=by
  have hle:s.heap.objs.size≤(s.heap.push { cls:=.type "list_iterator",data:=.fields #[.ref l,.int 0 0] }).objs.size:=by rw [hS];exact Nat.le_succ _
  exact I.z4 hle (I.dz.fresh hle)
 have I0:Inv X pins σ H { s with heap:=(s.heap.push { cls:=.type "list_iterator",data:=.fields #[.ref l,.int 0 0] }).push (seqObj "list" #[] 0),toks:=s.toks }:=I.kept (t':=s.toks) kp;have U0:Un (wj X.stack) [] H H s.heap ((s.heap.push { cls:=.type "list_iterator",data:=.fields #[.ref l,.int 0 0] }).push (seqObj "list" #[] 0)):=Un.kept kp;have Ra:s.heap.objs.size≤s.heap.objs.size:=Nat.le_refl _;have Ir:s.heap.objs.size≤(s.heap.push { cls:=.type "list_iterator",data:=.fields #[.ref l,.int 0 0] }).objs.size:=by rw [hS];exact Nat.le_succ _
 generalize F4:s.heap.objs.size=Ia at *
 generalize (s.heap.push { cls:=.type "list_iterator",data:=.fields #[.ref l,.int 0 0] }).objs.size=S at *
 have hsz:its.toArray.size=xs.length:=by rw [List.size_toArray,← rv.length]
 have W:=Walks.list (prog:=X.prog) (w:=X.w) (A:=X.A.in1) hh Ia l F3 its.toArray;obtain ⟨nu,MJ,Rb,_⟩:=I0.list (hL H fun _ _ e=>e);have W:=Walks.list (prog:=X.prog) (w:=X.w) (A:=X.A.in1) hh Ia l F3 nu.toArray;have hsz:nu.toArray.size=xs.length:=by rw [List.size_toArray,← MJ.length]
 refine codeAny_builtin PySem.F.entry_min_loop ?_;rw [Around.under_plainId PySem.F.plain_min_loop _];show wpAny _ X.A.in1 (seqItems? (.ref _) >>= _) _ _ _;refine wpAny_bind (wpAny_seqItems gS rfl ?_);show wpAny _ X.A.in1 (tryCatch (pyNext (.ref Ia)) _ >>= _) _ _ _;refine wpAny_bind (wpAny_tryCatch (W.item 0 _ _ _ (by rw [hsz,Kt];exact Nat.succ_pos _) ⟨⟨_,gI,rfl,rfl⟩,Rb.isList⟩ fun v h' F5 hP Dn sT=>?_));have hv:nu[0]?=some v:=by simpa using hP
 have CB:xs[0]?=some x0:=by rw [Kt];rfl
 obtain ⟨u0,MH,Iq⟩:=MJ.get CB;have ev:u0=v:=Option.some.inj (MH.symm.trans hv);subst ev;have Jw:x0∈xs:=List.mem_of_getElem? CB;obtain ⟨Kn,Dq,CY,vF⟩:=id Dn.1;have I1:=dU (h':=h') (tk:=F5) I0 fI fun b o hb e=>sT b o (by simpa using hb) e;have U1:Un (wj X.stack) [] H H s.heap h':=U0.later (by rw [F4];exact Nat.le_refl _) fun b o hb e=>sT b o (by simpa using hb) e;have Ip:h'.get? S=some (seqObj "list" #[] 0):=sT S _ (by simpa using Dm) gS;show wpAny _ X.A.in1 (tryCatch (holding [u0] (call (.ref q) [u0])) _ >>= _) _ _ _;refine wpAny_bind (wpAny_tryCatch (wpAny_holding (tG hq Jw Iq I1 (fun _ _ e=>e) U1 fI fS Dq Ip (fun v e=>by rw [vF] at e;cases e) (fun v e=>by cases e) fun H2 s2 t2 I2 Ko U2 Kq F6 Kr F7=>?_)));have s1:=Heap.SameBut.update s2.heap S (Obj.mapSeq fun _=>#[u0,.int (kf x0) t2]);obtain ⟨c2,FH⟩:∃ c2,(s2.heap.update S (Obj.mapSeq fun _=>#[u0,.int (kf x0) t2])).get? S=some (seqObj "list" #[u0,.int (kf x0) t2] c2):=⟨_,get?_update_seq F7 fun _=>#[u0,.int (kf x0) t2]⟩;show wpAny _ X.A.in1 (updateSeq S (fun _=>#[u0,.int (kf x0) t2]) >>= _) _ _ _;refine wpAny_bind ?_;refine wpAny_updateSeq F7 rfl ?_;rw [pL];refine wpAny_pure ⟨plainId_quiet PySem.F.plain_min_loop _,Io (x0:=x0) hh hq hL F3 Dm (by rw [F4];exact Nat.le_refl _) (by rw [F4];exact Ir) (fun v H' s' r sm J=>hR v H' s' r sm J) _ 1 _ H2 x0 u0 t2 c2 rfl (by rw [Kt];exact Nat.succ_le_succ (Nat.zero_le _)) (dU (s':=s2) (tk:=s2.toks) I2 F6 fun b o hb e=>(s1.2 b hb).trans e) Ko (U2.later (by rw [F4];exact Ir) fun b o hb e=>(s1.2 b hb).trans e) Kq F6 FH ⟨Kn,(s1.2 Ia Dm.symm).trans Kr,CY,vF⟩ Iq ?_⟩;rw [Kt];unfold jF;simp
theorem kmk_max_key (a v:Value):argsOk "max" ⟨[a],[(Str.ofString "key",v)]⟩:=by unfold argsOk;kernel_rfl
theorem Iu (hh:X.A.handled=none) (hq:qK X σ eg H xs kf q) (hL:∀ H',aB H H'→bU X.K H' l xs) (F3:l≠Ia) (Dm:S≠Ia) (F4:eg.heap.objs.size≤Ia) (Q9:eg.heap.objs.size≤S) {x0:V}
  (hR:∀ v H' s',RelV (jG kf x0 xs) v→aB H H'→Inv X pins σ H' s'→R (.ok (.ret v)) s') :
  ∀ (r j:Nat) (s':Shared) (H':Hp) (xb:V) (vb:Value) (tb:Tok) (c:Nat),xs.length - j=r→j≤xs.length→Inv X pins σ H' s'→aB H H'→Un (wj X.stack) [] H H' eg.heap s'.heap→kD X pins H' Ia→kD X pins H' S →
   s'.heap.get? S=some (seqObj "list" #[vb,.int (kf xb) tb] c)→s'.heap.IsListIter Ia l j→RelV xb vb→xb=jG kf x0 (xs.take j) →
   codeAny (model X.prog X.w) X.A (.builtin "max.loop" ⟨[.ref Ia,.ref q,.ref S],[]⟩) R s':=by
 have pL:(toString "max"++toString ".loop":String) = "max.loop":=by decide
 intro r;induction r with
 | zero =>
  intro j s' H' xb vb tb c hr hj I sm U fI fS gS hit rb eb;have Jx:j=xs.length:=by omega
  obtain ⟨its,rv,pl,_⟩:=I.list (hL H' sm);have hsz:its.toArray.size=j:=by rw [List.size_toArray,← rv.length,Jx]
  have W:=Walks.list (prog:=X.prog) (w:=X.w) (A:=X.A.in1) hh Ia l F3 its.toArray;refine codeAny_builtin PySem.F.entry_max_loop ?_;rw [Around.under_plainId PySem.F.plain_max_loop _];show wpAny _ X.A.in1 (seqItems? (.ref S) >>= _) _ _ _;refine wpAny_bind (wpAny_seqItems gS rfl ?_);show wpAny _ X.A.in1 (tryCatch (pyNext (.ref Ia)) _ >>= _) _ _ _;refine wpAny_bind (wpAny_tryCatch (W.done _ _ _ ⟨by rw [hsz];exact hit,pl.isList⟩ fun h' F5 sT=>?_));have I1:Inv X pins σ H' { s' with heap:=h',toks:=F5 }:=dU I fI fun b o hb e=>sT b o (by simpa using hb) e;have Ip:h'.get? S=some (seqObj "list" #[vb,.int (kf xb) tb] c):=sT S _ (by simpa using Dm) gS;have s1:=Heap.SameBut.update h' S (Obj.mapSeq fun _=>(#[]:Array Value));show wpAny _ X.A.in1 (updateSeq S (fun _=>#[]) >>= _) _ _ _;refine wpAny_bind ?_;refine wpAny_updateSeq Ip rfl (wpAny_bind (wpAny_letGo (wpAny_pure ?_)));rw [Jx,List.take_length] at eb;exact hR vb H' _ (by rw [← eb];exact rb) sm (dU (s':={ s' with heap:=h',toks:=F5 }) I1 fS fun b o hb e=>(s1.2 b hb).trans e)
 | succ r ih =>
  intro j s' H' xb vb tb c hr hj I sm U fI fS gS hit rb eb;have iD:j < xs.length:=by omega
  obtain ⟨its,rv,pl,_⟩:=I.list (hL H' sm);have hsz:its.toArray.size=xs.length:=by rw [List.size_toArray,← rv.length]
  have W:=Walks.list (prog:=X.prog) (w:=X.w) (A:=X.A.in1) hh Ia l F3 its.toArray;refine codeAny_builtin PySem.F.entry_max_loop ?_;rw [Around.under_plainId PySem.F.plain_max_loop _];show wpAny _ X.A.in1 (seqItems? (.ref S) >>= _) _ _ _;refine wpAny_bind (wpAny_seqItems gS rfl ?_);show wpAny _ X.A.in1 (tryCatch (pyNext (.ref Ia)) _ >>= _) _ _ _;refine wpAny_bind (wpAny_tryCatch (W.item j _ _ _ (by rw [hsz];exact iD) ⟨hit,pl.isList⟩ fun v h' F5 hP Dn sT=>?_));have hv:its[j]?=some v:=by simpa using hP
  obtain ⟨x,MG⟩:∃ x,xs[j]?=some x:=⟨_,List.getElem?_eq_getElem iD⟩;obtain ⟨u0,MH,Iq⟩:=rv.get MG;have ev:u0=v:=Option.some.inj (MH.symm.trans hv);subst ev;have Jw:x∈xs:=List.mem_of_getElem? MG;obtain ⟨Kn,Dq,CY,vF⟩:=id Dn.1;have I1:Inv X pins σ H' { s' with heap:=h',toks:=F5 }:=dU I fI fun b o hb e=>sT b o (by simpa using hb) e;have U1:Un (wj X.stack) [] H H' eg.heap h':=U.later F4 fun b o hb e=>sT b o (by simpa using hb) e;have Ip:h'.get? S=some (seqObj "list" #[vb,.int (kf xb) tb] c):=sT S _ (by simpa using Dm) gS;show wpAny _ X.A.in1 (tryCatch (holding [u0] (call (.ref q) [u0])) _ >>= _) _ _ _;refine wpAny_bind (wpAny_tryCatch (wpAny_holding (tG hq Jw Iq I1 sm U1 fI fS Dq Ip (fun v e=>by rw [vF] at e;cases e) (fun v e=>by cases e) fun H2 s2 t2 I2 Ko U2 Kq F6 Kr F7=>?_)));have MI:s2.heap.IsListIter Ia l (j+1):=⟨Kn,Kr,CY,vF⟩;show wpAny _ X.A.in1 (tryCatch (holding [u0,.int (kf x) t2] (richCompare .Gt (.int (kf x) t2) (.int (kf xb) tb) >>= _)) _ >>= _) _ _ _;refine wpAny_bind (wpAny_tryCatch (wpAny_holding (wpAny_bind (HT.Il _ _ _ _ _ _ _ _ _ _ ?_))));refine wpAny_bind (wpAny_holding (wpAny_truthy_bool ?_));refine wpAny_bind (wpAny_letGo (wpAny_pure ?_));have B4:∀ y,y=(if kf xb < kf x then x else xb)→y=jG kf x0 (xs.take (j+1)):=fun y e=>by
   rw [List.take_add_one,MG];unfold jG;rw [List.foldl_append,e,eb];rfl
  by_cases uq:kf xb < kf x
  ·have s1:=Heap.SameBut.update s2.heap S (Obj.mapSeq fun _=>#[u0,.int (kf x) t2]);obtain ⟨c2,FH⟩:∃ c2,(s2.heap.update S (Obj.mapSeq fun _=>#[u0,.int (kf x) t2])).get? S=some (seqObj "list" #[u0,.int (kf x) t2] c2):=⟨_,get?_update_seq F7 fun _=>#[u0,.int (kf x) t2]⟩;simp only [uq,decide_true,if_true];refine wpAny_bind ?_;refine wpAny_updateSeq F7 rfl (wpAny_bind (wpAny_letGo ?_));rw [pL];refine wpAny_pure ⟨plainId_quiet PySem.F.plain_max_loop _,ih (j+1) _ H2 x u0 t2 c2 (by omega) iD (dU (s':=s2) (tk:=s2.toks) I2 F6 fun b o hb e=>(s1.2 b hb).trans e) Ko (U2.later Q9 fun b o hb e=>(s1.2 b hb).trans e) Kq F6 FH ⟨Kn,(s1.2 Ia Dm.symm).trans Kr,CY,vF⟩ Iq (B4 x (by rw [if_pos uq]))⟩
  ·simp only [uq,decide_false,Bool.false_eq_true,if_false];refine wpAny_bind (wpAny_letGo ?_);rw [pL];exact wpAny_pure ⟨plainId_quiet PySem.F.plain_max_loop _,ih (j+1) s2 H2 xb vb tb c (by omega) iD I2 Ko U2 Kq F6 F7 MI rb (B4 xb (by rw [if_neg uq]))⟩
theorem Ku {s:Shared} {x0:V} {xr:List V} {Q E:Value→Shared→Prop} (hh:X.A.handled=none) (Kt:xs=x0::xr) (hq:qK X σ s H xs kf q) (hL:∀ H',aB H H'→bU X.K H' l xs) (I:Inv X pins σ H s) (iD:l < s.heap.objs.size)
  (hR:∀ v H' s',RelV (jG kf x0 xs) v→aB H H'→Inv X pins σ H' s'→Q v s') :
  wpAny (model X.prog X.w) X.A (call (.builtin "max") [.ref l] [(Str.ofString "key",.ref q)]) Q E s:=by
 have pL:(toString "max"++toString ".loop":String) = "max.loop":=by decide
 obtain ⟨its,rv,pl,_⟩:=I.list (hL H fun _ _ e=>e);refine kmk_tree PySem.F.kind_max PySem.F.plain_max PySem.F.entry_max (kmk_max_key _ _) ?_;show wpAny _ X.A.in1 (Builtin.Builtins.bindParams "max" ["key","default"] 0 ⟨[],[(Str.ofString "key",.ref q)]⟩ >>= _) _ _ s;refine wpAny_bind (wpAny_of_eq (show Builtin.Builtins.bindParams "max" ["key","default"] 0 ⟨[],[(Str.ofString "key",.ref q)]⟩=pure [some (.ref q),none] from rfl) ?_);refine wpAny_bind (wpAny_pure ?_);refine wpAny_bind (wpAny_pyIter_list pl.isList ?_);refine wpAny_bind (wpAny_newList ?_ (Nat.zero_le _));rw [pL];have hS:(s.heap.push { cls:=.type "list_iterator",data:=.fields #[.ref l,.int 0 0] }).objs.size=s.heap.objs.size+1:=size_push' ..;have F3:l≠s.heap.objs.size:=Nat.ne_of_lt iD;have Dm:(s.heap.push { cls:=.type "list_iterator",data:=.fields #[.ref l,.int 0 0] }).objs.size≠s.heap.objs.size:=by rw [hS];exact Nat.ne_of_gt (Nat.lt_succ_self _)
 refine wpAny_pure ⟨plainId_quiet PySem.F.plain_max_loop _,?_⟩;have kp:∀ b o,s.heap.get? b=some o→((s.heap.push { cls:=.type "list_iterator",data:=.fields #[.ref l,.int 0 0] }).push (seqObj "list" #[] 0)).get? b=some o:=fun b o e=>Heap.get?_push_of_some _ (Heap.get?_push_of_some _ e);have gI:((s.heap.push { cls:=.type "list_iterator",data:=.fields #[.ref l,.int 0 0] }).push (seqObj "list" #[] 0)).get? s.heap.objs.size=some { cls:=.type "list_iterator",data:=.fields #[.ref l,.int 0 0] } :=
  Heap.get?_push_of_some _ (Heap.get?_push_size _ rfl)
 have gS:((s.heap.push { cls:=.type "list_iterator",data:=.fields #[.ref l,.int 0 0] }).push (seqObj "list" #[] 0)).get? (s.heap.push { cls:=.type "list_iterator",data:=.fields #[.ref l,.int 0 0] }).objs.size=some (seqObj "list" #[] 0):=Heap.get?_push_size _ rfl;have fI:kD X pins H s.heap.objs.size:=I.z4 (Nat.le_refl _) (I.dz.fresh (Nat.le_refl _));have fS:kD X pins H (s.heap.push { cls:=.type "list_iterator",data:=.fields #[.ref l,.int 0 0] }).objs.size:=by
  have hle:s.heap.objs.size≤(s.heap.push { cls:=.type "list_iterator",data:=.fields #[.ref l,.int 0 0] }).objs.size:=by rw [hS];exact Nat.le_succ _
  exact I.z4 hle (I.dz.fresh hle)
 have I0:Inv X pins σ H { s with heap:=(s.heap.push { cls:=.type "list_iterator",data:=.fields #[.ref l,.int 0 0] }).push (seqObj "list" #[] 0),toks:=s.toks }:=I.kept (t':=s.toks) kp;have U0:Un (wj X.stack) [] H H s.heap ((s.heap.push { cls:=.type "list_iterator",data:=.fields #[.ref l,.int 0 0] }).push (seqObj "list" #[] 0)):=Un.kept kp;have Ra:s.heap.objs.size≤s.heap.objs.size:=Nat.le_refl _;have Ir:s.heap.objs.size≤(s.heap.push { cls:=.type "list_iterator",data:=.fields #[.ref l,.int 0 0] }).objs.size:=by rw [hS];exact Nat.le_succ _
 generalize F4:s.heap.objs.size=Ia at *
 generalize (s.heap.push { cls:=.type "list_iterator",data:=.fields #[.ref l,.int 0 0] }).objs.size=S at *
 have hsz:its.toArray.size=xs.length:=by rw [List.size_toArray,← rv.length]
 have W:=Walks.list (prog:=X.prog) (w:=X.w) (A:=X.A.in1) hh Ia l F3 its.toArray;obtain ⟨nu,MJ,Rb,_⟩:=I0.list (hL H fun _ _ e=>e);have W:=Walks.list (prog:=X.prog) (w:=X.w) (A:=X.A.in1) hh Ia l F3 nu.toArray;have hsz:nu.toArray.size=xs.length:=by rw [List.size_toArray,← MJ.length]
 refine codeAny_builtin PySem.F.entry_max_loop ?_;rw [Around.under_plainId PySem.F.plain_max_loop _];show wpAny _ X.A.in1 (seqItems? (.ref _) >>= _) _ _ _;refine wpAny_bind (wpAny_seqItems gS rfl ?_);show wpAny _ X.A.in1 (tryCatch (pyNext (.ref Ia)) _ >>= _) _ _ _;refine wpAny_bind (wpAny_tryCatch (W.item 0 _ _ _ (by rw [hsz,Kt];exact Nat.succ_pos _) ⟨⟨_,gI,rfl,rfl⟩,Rb.isList⟩ fun v h' F5 hP Dn sT=>?_));have hv:nu[0]?=some v:=by simpa using hP
 have CB:xs[0]?=some x0:=by rw [Kt];rfl
 obtain ⟨u0,MH,Iq⟩:=MJ.get CB;have ev:u0=v:=Option.some.inj (MH.symm.trans hv);subst ev;have Jw:x0∈xs:=List.mem_of_getElem? CB;obtain ⟨Kn,Dq,CY,vF⟩:=id Dn.1;have I1:=dU (h':=h') (tk:=F5) I0 fI fun b o hb e=>sT b o (by simpa using hb) e;have U1:Un (wj X.stack) [] H H s.heap h':=U0.later (by rw [F4];exact Nat.le_refl _) fun b o hb e=>sT b o (by simpa using hb) e;have Ip:h'.get? S=some (seqObj "list" #[] 0):=sT S _ (by simpa using Dm) gS;show wpAny _ X.A.in1 (tryCatch (holding [u0] (call (.ref q) [u0])) _ >>= _) _ _ _;refine wpAny_bind (wpAny_tryCatch (wpAny_holding (tG hq Jw Iq I1 (fun _ _ e=>e) U1 fI fS Dq Ip (fun v e=>by rw [vF] at e;cases e) (fun v e=>by cases e) fun H2 s2 t2 I2 Ko U2 Kq F6 Kr F7=>?_)));have s1:=Heap.SameBut.update s2.heap S (Obj.mapSeq fun _=>#[u0,.int (kf x0) t2]);obtain ⟨c2,FH⟩:∃ c2,(s2.heap.update S (Obj.mapSeq fun _=>#[u0,.int (kf x0) t2])).get? S=some (seqObj "list" #[u0,.int (kf x0) t2] c2):=⟨_,get?_update_seq F7 fun _=>#[u0,.int (kf x0) t2]⟩;show wpAny _ X.A.in1 (updateSeq S (fun _=>#[u0,.int (kf x0) t2]) >>= _) _ _ _;refine wpAny_bind ?_;refine wpAny_updateSeq F7 rfl ?_;rw [pL];refine wpAny_pure ⟨plainId_quiet PySem.F.plain_max_loop _,Iu (x0:=x0) hh hq hL F3 Dm (by rw [F4];exact Nat.le_refl _) (by rw [F4];exact Ir) (fun v H' s' r sm J=>hR v H' s' r sm J) _ 1 _ H2 x0 u0 t2 c2 rfl (by rw [Kt];exact Nat.succ_le_succ (Nat.zero_le _)) (dU (s':=s2) (tk:=s2.toks) I2 F6 fun b o hb e=>(s1.2 b hb).trans e) Ko (U2.later (by rw [F4];exact Ir) fun b o hb e=>(s1.2 b hb).trans e) Kq F6 FH ⟨Kn,(s1.2 Ia Dm.symm).trans Kr,CY,vF⟩ Iq ?_⟩;rw [Kt];unfold jG;simp
end
noncomputable def Rc (K:PySem.W.Frag) (T:Addr) (qual:Str) (js:List Nat) (ls:List V→Sp) (best:(V→Int)→V→List V→V) (t1:TE):TE:=fun σ H Q=>t1 σ H fun v1 H1=>fR H1 T qual ∧
 ∃ (l:Addr) (x0:V) (xr:List V) (kf:V→Int) (dH:List V),v1=.ref l∧bU K H1 l (x0::xr)∧(∀ o,H1 l=some o→l≠T)∧js.map (σ[·]?)=(dH.map fun v=>some (some v)) ∧
 (∀ H3 x Q',x∈x0::xr→(∀ H4,aB H3 H4→Q' (.int (kf x)) H4)→ls dH [x] H3 Q' E0) ∧
 ∀ H2,fR H2 T qual→(∀ b o,H1 b=some o→b≠T→H2 b=some o)→Q (best kf x0 (x0::xr)) H2
section
variable {X:Cx} {k j:Nat} {E:XK} {x:Str} {p pos Ak kp:Pos} {e1:Expr} {t1:TE} {T:Addr} {N qs:List Str} {params:Arguments} {body:Expr} {scope:Scope} {js:List Nat} {ls:List V→Sp} {best:(V→Int)→V→List V→V} {id:String}
theorem F8 {K:PySem.W.Frag} {H H':Hp} {a:Addr} {xs:List V} (h:bU K H a xs) (hT:∀ o,H a=some o→a≠T) (k:∀ b o,H b=some o→b≠T→H' b=some o):bU K H' a xs:=by
 rcases h with h | h
 ·rcases h with h | ⟨o,h⟩
  ·exact .inl (.inl (k _ _ h (hT _ h)))
  ·exact .inl (.inr ⟨o,k _ _ h (hT _ h)⟩)
 ·exact .inr h
theorem Iv (hr:eu (j+2) X.A) (hg:Gl X x) (hm:X.mg x=none) (hv:bootBuiltins x=some (.builtin id))
  (F1:∀ {σ:St} {H:Hp} {s:Shared} {pins:List (Addr×Obj)} {x0:V} {xr xs:List V} {kf:V→Int} {q l:Addr} {Q:Value→Shared→Prop},X.A.handled=none→xs=x0::xr→qK X σ s H xs kf q→(∀ H',aB H H'→bU X.K H' l xs)→Inv X pins σ H s→l < s.heap.objs.size →
   (∀ v H' s',RelV (best kf x0 xs) v→aB H H'→Inv X pins σ H' s'→Q v s')→wpAny (model X.prog X.w) X.A (call (.builtin id) [.ref l] [(Str.ofString "key",.ref q)]) Q X.xe s)
  (h1:PA X [e1] (tCons t1 tNil)) (L:j7 X.mg X.base X.env.code T) (HX:defaultsOf params X.env=([],[])) (S:pK N qs scope) (SI:X.calm=true)
  (EG:∀ y∈scope.names,y.2=.free→∃ c,X.env.cells.lookup y.1=some c) (Mz:js.map (X.N[·]?)=(N.drop qs.length).map some) (J7:∀ n∈N.drop qs.length,(n,NameKind.free)∈scope.names)
  (Ih:∀ n∈N.drop qs.length,X.env.kindOf n=some .cell) (len:∀ dH vs H Q E,ls dH vs H Q E→vs.length=qs.length)
  (xp:∀ (cl:List (Str×Addr)) (pm bJ ct:Value) (us:List Value),us.length=qs.length→bindArgs (PySem.W.kla_fn "<lambda>" (X.env.qual++"<lambda>") params body scope cl pm bJ ct) ⟨us,[]⟩=pure (qs.zip us))
  (jR:∀ (dH:List V) (fl:Addr) (cl:List (Str×Addr)) (A:Around) (outer:List Env) (cd:Value) (s:Shared) (H:Hp) (vs:List V) (Q:VK) (E:XK),N.length=qs.length+dH.length →
   eu j (A.deeper (PySem.W.envX (X.env.qual++"<lambda>") scope s.heap.objs.size fl cd cl))→ls dH vs H Q E →
   ∃ t,PE (zD Bc X.prog X.w X.K X.mg X.base N (X.env.qual++"<lambda>") scope fl cd cl A outer s H E) body t∧t ((vs++dH).map some) H Q)
  (hn:x≠"__name__":=by decide) (C7:(x == ("__debug__":Str))=false:=by decide)
  (he:backTo pos (starEach [e1] X.env)=(false,eval e1 X.env)::backTo pos (starEach [] X.env):=by rfl)
  (Dc:(backTo pos (starEach [e1] X.env)).any (·.1)=false:=by rfl) :
  PE X (.Call (.Name x p) [e1] [⟨some "key",.Lambda params body scope Ak,kp⟩] pos) (Rc X.K T (X.env.qual++"<lambda>") js ls best t1):=by
 intro pins s σ H Q I h;refine wpAny_Call_Name_kw (w6 I hg hm hv ?_ hn C7);refine callWith_kw (kws:=[⟨some "key",.Lambda params body scope Ak,kp⟩]) ?_ he Dc rfl rfl;have h':tCons t1 tNil σ H (fun vs H1=>match vs with
  | [v1]=>fR H1 T (X.env.qual++"<lambda>")∧∃ (l:Addr) (x0:V) (xr:List V) (kf:V→Int) (dH:List V),v1=.ref l∧bU X.K H1 l (x0::xr)∧(∀ o,H1 l=some o→l≠T)∧js.map (σ[·]?)=(dH.map fun v=>some (some v)) ∧
   (∀ H3 x Q',x∈x0::xr→(∀ H4,aB H3 H4→Q' (.int (kf x)) H4)→ls dH [x] H3 Q' E0) ∧
   ∀ H2,fR H2 T (X.env.qual++"<lambda>")→(∀ b o,H1 b=some o→b≠T→H2 b=some o)→Q (best kf x0 (x0::xr)) H2
  | _=>False):=h
 refine dP (h1 pos pins s σ H _ I h') fun us s1 ⟨vs,H1,I1,r,q⟩=>?_
 match vs,r,q with
 | [v1],r,q =>
  obtain ⟨u1,rfl,r1⟩:=bB.one r;obtain ⟨hT,l,x0,xr,kf,dH,rfl,hS,Vg,MB,Kl,q⟩:=q;obtain rfl:u1=Value.ref l:=r1;refine kws_cons (BY I1 L hT HX EG fun fl H3 s3 I3 Ii SJ Jr=>kws_nil ?_);show wpAny _ _ (call (.builtin id) [.ref l] [(Str.ofString "key",.ref fl)]) _ _ s3;have Ou:N.length=qs.length+dH.length:=by
   have e1:=congrArg List.length Mz;have e2:=congrArg List.length MB;rw [List.length_map,List.length_map,List.length_drop] at e1;rw [List.length_map,List.length_map] at e2;have e3:qs.length≤N.length:=by have:=congrArg List.length S.pre;rw [List.length_take] at this;omega
   omega
  have C:=Ig (My:=qs) I3 EG Mz J7 Ih MB;have LO:xo X.prog X.w X.K X.mg X.base Bc (j+1) fl (ls dH) s3 H3:=H0 S Ou Jr C (len dH) (xp _) fun A outer cd s H vs Q E hr Kl=>jR dH fl _ A outer cd s H vs Q E Ou hr Kl;have Kv:bU X.K H3 l (x0::xr):=F8 hS Vg SJ;obtain ⟨its,_,pl,_⟩:=I3.list Kv;have iD:l < s3.heap.objs.size:=by
   obtain ⟨_,e,_⟩:=pl.isList;exact Heap.lt_size e
  refine F1 (kf:=kf) (x0:=x0) (xr:=xr) (xs:=x0::xr) hr.hd rfl (fun wY s' H' x v hx rx I' sm U=>?_) (fun H' sm=>sm.seq Kv) I3 iD fun v H' s' rv sm I'=>?_
  ·refine wpAny_call (codeAny_mono (LO.2.2 (wj X.stack) X.A.in1 X.stack s' H' [v] [x] (fun y H4=>y=.int (kf x)∧aB H' H4) E0 (hr.in1) I'.Hz.in1 U (.cons rx .nil) (Kl H' x _ hx fun H4 s4=>⟨rfl,s4⟩)) fun r zw hq=>?_);cases r with
   | error e=>exact False.elim hq
   | ok Po =>
    cases Po with
    | ret u =>
     obtain ⟨w',H4,os,bare,un,dz,FI,ew,Ov⟩:=hq;subst ew;obtain ⟨t,rfl⟩:=FI;have I4:Inv X wY σ H4 zw:=I'.K6 os un dz bare fun b z=>absurd z (by simp);exact ⟨H4,t,I4,Ov,un,rfl⟩
    | next=>exact False.elim hq
    | brk=>exact False.elim hq
    | cont=>exact False.elim hq
  ·exact ⟨_,H',I',rv,q H' (Ii.of sm) fun b o e hb=>sm b o (SJ b o e hb)⟩
end
end L2
namespace HT
open PySem PyProof.Rows
noncomputable def lexLe:List Int→List Int→Bool
 | [],_=>true
 | _::_,[]=>false
 | x::xs,y::ys=>if x=y then lexLe xs ys else decide (x≤y)
theorem r9 (x y:Int) (xs ys:List Int):lexLe (x::xs) (y::ys)=if x=y then lexLe xs ys else decide (x≤y):=rfl
theorem zF (ys:List Int):lexLe [] ys=true:=by cases ys <;> rfl
theorem xu (x:Int) (xs:List Int):lexLe (x::xs) []=false:=rfl
theorem Iw (A:Around) (s:Shared) (a:Int) (t:Tok) (c:Int) (u:Tok) (prog:Program) (w:World) (E:Value→Shared→Prop) (Q:Value→Shared→Prop) (h:Q (.bool (decide (a≤c))) s) :
  wpAny (model prog w) A (richCompare .LtE (.int a t) (.int c u)) Q E s :=
 (PyProof.Rows.le_int h:wpAny (model prog w) A (compareOp .LtE (.int a t) (.int c u)) Q E s)
section
open PySem.SeqAt
open PySem.AutoSeq1 (wpAny_loadPart')
open PySem.MeetsSeq PySem.MeetsSeq2 PySem.MeetsSeq3
theorem yV (l b:Addr) (items ej:Array Value) (n n2:Nat) (dd L5:Option Addr) (sl J4:Array (Option Value)) (ns ms:List Int) (hi:IntsAre items.toList ns) (hj:IntsAre ej.toList ms) :
  Meets (Builtin.«tuple.__le__» ⟨[.ref l,.ref b],[]⟩)
   (fun _ R s=>s.heap.get? l=some { cls:=.type "tuple",dict:=dd,data:=.seq items n,slots:=sl }∧s.heap.get? b=some { cls:=.type "tuple",dict:=L5,data:=.seq ej n2,slots:=J4 } ∧
    R (.ok (.ret (.bool (lexLe ns ms)))) s) :=
 .of_wp fun prog w A R s h=>by
  obtain ⟨hp,g,d,tk,os⟩:=s;obtain ⟨hl,hb,h⟩:=h;have f2:=AutoSeq1.sub_tuple_tuple;have z1:items.size=ns.length:=by rw [← hi.length];simp
  have z2:ej.size=ms.length:=by rw [← hj.length];simp
  wp_walk using wpAny_loadPart' hl,wpAny_loadPart' hb,wpAny_forIn_list _ (fun rest b s'=>b.1=none∧s'=⟨hp,g,d,tk,os⟩∧∃ (vs ws:List Value) (FE FG:List Int),rest=vs.zip ws ∧
   IntsAre vs FE∧IntsAre ws FG∧FE.length+ej.size=FG.length+items.size∧R (.ok (.ret (.bool (lexLe FE FG)))) ⟨hp,g,d,tk,os⟩) _
  case turn =>
   rintro ⟨y,x⟩ rest b s' ⟨uq,rfl,vs,ws,FE,FG,hz,L7,Ju,hlen,hR⟩;cases L7 with
   | nil=>rw [List.zip_nil_left] at hz;cases hz
   | cons a t L8 =>
    cases Ju with
    | nil=>rw [List.zip_nil_right] at hz;cases hz
    | cons c u L9 =>
     rw [List.zip_cons_cons] at hz;injection hz with Qy BC;injection Qy with hy hx;subst hy hx;rw [r9] at hR;simp only [List.length_cons] at hlen;obtain ⟨e,he,HD⟩:=Bz A.in1 ⟨hp,g,d,tk,os⟩ a t c u;refine wpAny_bind (he prog w _ _ ?_);cases e with
     | true =>
      rw [if_pos (HD.mp rfl)] at hR
      wp_walk
      exact ⟨rfl,rfl,_,_,_,_,BC,L8,L9,by omega,hR⟩
     | false =>
      rw [if_neg (fun q=>absurd (HD.mpr q) Bool.false_ne_true)] at hR;have Qz:=Iw A.in1 ⟨hp,g,d,tk,os⟩ a t c u prog w
      wp_walk using Qz
      exact ⟨_,rfl,by simpa using hR⟩
  case fin =>
   rintro ⟨b1,b2⟩ s' ⟨uq,rfl,vs,ws,FE,FG,hz,L7,Ju,hlen,hR⟩;simp only at uq;subst uq;have hv:lexLe FE FG=decide (items.size≤ej.size):=by
    cases L7 with
    | nil =>
     rw [zF];simp only [List.length_nil] at hlen;exact (decide_eq_true (by omega)).symm
    | cons a t hv =>
     cases Ju with
     | nil =>
      simp only [List.length_nil,List.length_cons] at hlen;rw [xu];exact (decide_eq_false (by omega)).symm
     | cons c u hw =>
      rw [List.zip_cons_cons] at hz;cases hz
   rw [hv] at hR
   wp_walk
   exact ⟨_,rfl,by simpa [Builtin.Tuple.tupleCompareSizes] using hR⟩
  case h =>
   exact ⟨rfl,rfl,items.toList,ej.toList,ns,ms,rfl,hi,hj,by omega,h⟩
end
section
variable {prog:Program} {w:World} {A:Around} {E:Value→Shared→Prop} {s:Shared}
theorem Dr {l b:Addr} {items ej:Array Value} {ns ms:List Int} {Q:Value→Shared→Prop} (hl:IsTup s.heap l items) (hb:IsTup s.heap b ej) (hi:IntsAre items.toList ns) (hj:IntsAre ej.toList ms)
  (hu:A.units < cLine) (h:Q (.bool (lexLe ns ms)) s):wpAny (model prog w) A (compareOp .LtE (.ref l) (.ref b)) Q E s:=by
 obtain ⟨⟨cls,dd,data,sl⟩,ho,hc,n,hd⟩:=id hl;obtain ⟨⟨QA,L5,data2,J4⟩,Ma,FH,n2,hd2⟩:=id hb;simp only at hc hd FH hd2;subst hc hd FH hd2;exact richCompare_meets_room (op:=.LtE) ⟨_,ho,rfl⟩ ⟨_,Ma,rfl⟩ PySem.F.slot_tuple_le PySem.F.entry_tuple_le (PySem.F.args_tuple_le_2 _ _) (yV l b items ej n n2 dd L5 sl J4 ns ms hi hj)
  ⟨ho,Ma,show Value.bool (lexLe ns ms)≠Value.notImplemented∧Q (.bool (lexLe ns ms)) s from ⟨(fun x=>nomatch x),h⟩⟩ hu
end
end HT
namespace L2
open PySem PySem.Spec PyProof.Rows
section
variable {X:Cx}
noncomputable def Rf (K:PySem.W.Frag):R2:=fun x y H Q=>∃ a b ns ms,x=.ref a∧y=.ref b∧vi K H a (ns.map V.int)∧vi K H b (ms.map V.int)∧Q (.bl (HT.lexLe ns ms)) H
theorem MK (hu:X.A.units < cLine):pC X (compareOp .LtE) (Rf X.K):=by
 intro pins s σ H x y v u Q I rx ry h;obtain ⟨a,b,ns,ms,rfl,rfl,ha,hb,q⟩:=h;cases rx;cases ry;obtain ⟨its,r1,p1,_⟩:=I.tuple ha;obtain ⟨xg,r2,p2,_⟩:=I.tuple hb;have i1:IntsAre its.toArray.toList ns:=intsAre_of r1;have i2:IntsAre xg.toArray.toList ms:=intsAre_of r2;exact HT.Dr p1 p2 i1 i2 hu ⟨.bl (HT.lexLe ns ms),H,I,rfl,q⟩
noncomputable def Rg (K:PySem.W.Frag):R2:=fun x y H Q=>∃ (a b:Addr) (i j m n:Int),x=.ref a∧y=.ref b∧vi K H a [.int i,.int j]∧vi K H b [.int m,.int n]∧Q (.bl (decide (i=m∧j=n))) H
theorem ML (hu:X.A.units+64 < cLine):pC X (compareOp .Eq) (Rg X.K):=by
 intro pins s σ H x y v u Q I rx ry h;obtain ⟨a,b,i,j,m,n,rfl,rfl,ha,hb,q⟩:=h;refine Mj hu pins s σ H _ _ v u Q I rx ry ⟨.tuple [.int i,.int j],.tuple [.int m,.int n],.tup ha (.cons (.int i) (.cons (.int j) .nil)),.tup hb (.cons (.int m) (.cons (.int n) .nil)),rfl,rfl,?_⟩;have e:PyData.eqv (.tuple [.int i,.int j]) (.tuple [.int m,.int n])=decide (i=m∧j=n):=by
  rw [Bool.eq_iff_iff];simp [PyData.eqv,PyData.eqvAll]
 rw [e];exact q
theorem MM:pC X (compareOp .Is) (fun x y H Q=>y=.bl true∧(x=.dR∨∃ b,x=.bl b)∧Q (.bl (decide (x=.bl true))) H):=by
 intro pins s σ H x y v u Q I rx ry h;obtain ⟨rfl,hx,q⟩:=h;cases ry;rcases hx with rfl | ⟨b,rfl⟩
 ·cases rx;exact wpAny_pure (a:=Value.bool (Value.none == Value.bool true)) ⟨.bl false,H,I,rfl,q⟩
 ·cases rx;refine is_bool ⟨.bl _,H,I,?_,q⟩;cases b <;> rfl
theorem rB:∀ bs:List Bool,countIn (.bool true) (bs.map PyData.bool)=((bs.countP id:Nat):Int)
 | []=>rfl
 | b::r=>by
  rw [List.map_cons,countIn,rB r,List.countP_cons];cases b <;> simp [same] <;> omega
theorem vw {h:Heap}:∀ {bs:List Bool} {us:List Value},us=bs.map Value.bool→∃ as,ReadsAll h us (bs.map PyData.bool) as
 | [],_,e=>by subst e;exact ⟨_,ReadsAll.nil⟩
 | b::r,_,e=>by
  subst e;obtain ⟨as,q⟩:=vw (h:=h) (bs:=r) rfl;exact ⟨_,ReadsAll.cons (Reads.bool b) q⟩
theorem F9:Ph X "list.count" (fun x xs H Q=>∃ (a:Addr) (bs:List Bool),x=.ref a∧xs=[.bl true]∧bU X.K H a (bs.map V.bl)∧Q (.int (bs.countP id:Nat)) H):=by
 intro pins s σ H x xs v us Q I rx rv h;obtain ⟨a,bs,rfl,rfl,hq,q⟩:=h;cases rx;obtain ⟨u,rfl,ru⟩:=bB.one rv;cases ru;obtain ⟨its,rl,pl,_⟩:=I.list hq;have ei:=Dj rl;obtain ⟨as,ra⟩:=vw (h:=s.heap) ei;refine count_list_bools pl.isList ra ?_ ⟨.int _,H,I.tok _,⟨s.toks,?_⟩,q⟩
 ·rw [List.all_map];simp [Shape.has]
 ·rw [rB]
theorem ax {H H1:Hp} {D:Addr} {o:HO} (s:aB H H1) (hD:H D=none):aB H (upd H1 D o):=fun b u e=>by
 rw [aH (bf e hD)];exact s b u e
theorem d5 {K:PySem.W.Frag} {a:Addr} {xs:List V} {g:TG} {tt:TT} {te:TE} {vs:List Nat} {σ:St} {H1:Hp} {D:Addr} {Qd:Hp→Prop} (p:V→Option V) (hl:bU K H1 a xs) (hD:H1 D=none) (hz:xs.length≤sizeLine)
  (hs:∀ (i:Nat) x H (R:V→Hp→Prop) (R0:Hp→Prop),xs[i]?=some x→aB H1 H→(∀ y H4,aB H H4→p x=some y→R y H4)→(p x=none→∀ H3,aB H H3→R0 H3) →
   g x (wipe σ vs) H fun gy H2=>wipe gy vs=wipe σ vs∧tt gy H2 fun b H3=>if b=true then te gy H3 R else R0 H3)
  (hd:∀ H2,aB H1 H2→H2 D=some (.lst (xs.filterMap p))→Qd H2) :
  ∃ W:Nat→Nat→Hp→Prop,(∃ m,W 0 m (upd H1 D (.lst [])))∧∀ i m H,W i m H →
   ((Es K a).stop i H∧Qd H)∨((Es K a).go i H∧∃ Nx:Hp→Prop,(∀ H',Nx H'→∃ m',m' < m∧W (i+1) m' H')∧∀ x H',(Es K a).Fq i H x H'→g x (wipe σ vs) H' fun gy H2=>wipe gy vs=wipe σ vs∧tt gy H2 fun b H3 =>
    if b=true then te gy H3 fun y H4=>∃ acc,H4 D=some (.lst acc)∧acc.length < sizeLine∧Nx (upd H4 D (.lst (acc++[y]))) else Nx H3):=by
 have Ow:∀ (q:List V),(q.filterMap p).length≤q.length:=fun q=>List.length_filterMap_le p q;refine EI (K:=K) (a:=a) (xs:=xs) (fun i H=>aB H1 H∧H D=some (.lst ((xs.take i).filterMap p))) ⟨ax (fun _ _ e=>e) hD,by rw [au];rfl⟩ (fun i H _ h=>h.1.seq hl) (fun i x H hx h=>?_) fun H h=>hd H h.1 (by rw [h.2,List.take_length]);have hi:i < xs.length:=(List.getElem?_eq_some_iff.mp hx).1;have et:xs.take (i+1)=xs.take i++[x]:=by rw [List.take_add_one,hx];rfl
 refine hs i x H _ _ hx h.1 (fun y H4 s4 ep=>⟨_,s4 D _ h.2,?_,?_,?_⟩) fun ep H3 s3=>⟨fun b o e=>s3 b o (h.1 b o e),?_⟩
 ·have:=Ow (xs.take i);rw [List.length_take] at this;omega
 ·exact ax (fun b o e=>s4 b o (h.1 b o e)) hD
 ·rw [au,et,List.filterMap_append];simp [ep]
 ·rw [s3 D _ h.2,et,List.filterMap_append];simp [ep]
theorem uy {n:Nat} {g:TG} {tt:TT} {te:TE} {vs:List Nat} {σ:St} {H1:Hp} {D:Addr} {Qd:Hp→Prop} (p:Nat→Option V) (hD:H1 D=none) (hz:n≤sizeLine)
  (hs:∀ (i:Nat) H (R:V→Hp→Prop) (R0:Hp→Prop),i < n→aB H1 H→(∀ y H4,aB H H4→p i=some y→R y H4)→(p i=none→∀ H3,aB H H3→R0 H3) →
   g (.int i) (wipe σ vs) H fun gy H2=>wipe gy vs=wipe σ vs∧tt gy H2 fun b H3=>if b=true then te gy H3 R else R0 H3)
  (hd:∀ H2,aB H1 H2→H2 D=some (.lst ((List.range n).filterMap p))→Qd H2) :
  ∃ W:Nat→Nat→Hp→Prop,(∃ m,W 0 m (upd H1 D (.lst [])))∧∀ i m H,W i m H →
   ((GN 0 n).stop i H∧Qd H)∨((GN 0 n).go i H∧∃ Nx:Hp→Prop,(∀ H',Nx H'→∃ m',m' < m∧W (i+1) m' H')∧∀ x H',(GN 0 n).Fq i H x H'→g x (wipe σ vs) H' fun gy H2=>wipe gy vs=wipe σ vs∧tt gy H2 fun b H3 =>
    if b=true then te gy H3 fun y H4=>∃ acc,H4 D=some (.lst acc)∧acc.length < sizeLine∧Nx (upd H4 D (.lst (acc++[y]))) else Nx H3):=by
 refine HN (lo:=0) (n:=n) (fun i H=>aB H1 H∧H D=some (.lst ((List.range i).filterMap p))) ⟨ax (fun _ _ e=>e) hD,by rw [au];rfl⟩ (fun i H hi h=>?_) fun H h=>hd H h.1 h.2;rw [Int.zero_add];refine hs i H _ _ hi h.1 (fun y H4 s4 ep=>⟨_,s4 D _ h.2,?_,?_,?_⟩) fun ep H3 s3=>⟨fun b o e=>s3 b o (h.1 b o e),?_⟩
 ·have:=List.length_filterMap_le p (List.range i);rw [List.length_range] at this;omega
 ·exact ax (fun b o e=>s4 b o (h.1 b o e)) hD
 ·rw [au,List.range_succ,List.filterMap_append];simp [ep]
 ·rw [s3 D _ h.2,List.range_succ,List.filterMap_append];simp [ep]
end
theorem Iy {K:PySem.W.Frag} {a:Addr} {xs:List V} {g:TG} {tt:TT} {te:TE} {vs:List Nat} {σ:St} {H1:Hp} {D:Addr} {Qd:Hp→Prop} (p:Nat→V→V) (hl:bU K H1 a xs) (hD:H1 D=none) (hz:xs.length≤sizeLine)
  (hs:∀ (i:Nat) x T H (R:V→Hp→Prop) (R0:Hp→Prop),xs[i]?=some x→aB H1 H→H T=some (.tup [.int (i:Nat),x])→(∀ y H4,aB H H4→y=p i x→R y H4) →
   g (.ref T) (wipe σ vs) H fun gy H2=>wipe gy vs=wipe σ vs∧tt gy H2 fun b H3=>if b=true then te gy H3 R else R0 H3)
  (hd:∀ H2,aB H1 H2→H2 D=some (.lst ((List.range xs.length).map fun i=>p i (xs.getD i .dR)))→Qd H2) :
  ∃ W:Nat→Nat→Hp→Prop,(∃ m,W 0 m (upd H1 D (.lst [])))∧∀ i m H,W i m H →
   ((Lf K a).stop i H∧Qd H)∨((Lf K a).go i H∧∃ Nx:Hp→Prop,(∀ H',Nx H'→∃ m',m' < m∧W (i+1) m' H')∧∀ x H',(Lf K a).Fq i H x H'→g x (wipe σ vs) H' fun gy H2=>wipe gy vs=wipe σ vs∧tt gy H2 fun b H3 =>
    if b=true then te gy H3 fun y H4=>∃ acc,H4 D=some (.lst acc)∧acc.length < sizeLine∧Nx (upd H4 D (.lst (acc++[y]))) else Nx H3):=by
 refine ⟨fun i m H=>m=xs.length - i∧i≤xs.length∧aB H1 H∧H D=some (.lst ((List.range i).map fun i=>p i (xs.getD i .dR))),⟨xs.length,by simp,Nat.zero_le _,ax (fun _ _ e=>e) hD,by rw [au];rfl⟩,?_⟩;rintro i m H ⟨rfl,hi,sm,Lk⟩;have q:=sm.seq hl;by_cases iD:i < xs.length
 ·refine .inr ⟨⟨xs,xs[i],q,by simp [iD]⟩,fun H'=>aB H1 H'∧H' D=some (.lst ((List.range (i+1)).map fun i=>p i (xs.getD i .dR))),fun H' p'=>⟨xs.length - (i+1),by omega,rfl,iD,p'⟩,fun v H' y=>?_⟩;obtain ⟨T,x,rfl,hT,rfl,y⟩:=y;have hx:=y xs q;have Vh:xs.getD i .dR=x:=by simp [List.getD,hx]
  have s1:aB H (upd H T (.tup [.int (i:Nat),x])):=ax (fun _ _ e=>e) hT;refine hs i x T _ _ _ hx (fun b o e=>s1 b o (sm b o e)) au fun y H4 s4 ey=>⟨_,s4 D _ (s1 D _ Lk),?_,?_,?_⟩
  ·rw [List.length_map,List.length_range];omega
  ·exact ax (fun b o e=>s4 b o (s1 b o (sm b o e))) hD
  ·rw [au,List.range_succ,List.map_append,ey,← Vh];rfl
 ·have e:i=xs.length:=by omega
  subst e;exact .inl ⟨⟨xs,q,Nat.le_refl _⟩,hd H sm Lk⟩
theorem Iz {K:PySem.W.Frag} {a:Addr} {xs:List V} {g:TG} {tb:TS} {D:Ends} {σ:St} {H:Hp} (Pv:Nat→St→Hp→Prop) (h0:Pv 0 σ H) (hl:∀ i σ H,i≤xs.length→Pv i σ H→bU K H a xs)
  (hs:∀ i x T σ H,xs[i]?=some x→Pv i σ H→H T=none→g (.ref T) σ (upd H T (.tup [.int (i:Nat),x])) fun gy H2=>tb { D with nx:=Pv (i+1),ct:=Pv (i+1),bk:=D.nx } gy H2) (hd:∀ σ H,Pv xs.length σ H→D.nx σ H) :
  ∃ W:Nat→Nat→St→Hp→Prop,(∃ m,W 0 m σ H)∧∀ i m σ H,W i m σ H →
   ((Lf K a).stop i H∧D.nx σ H)∨((Lf K a).go i H∧∃ N:St→Hp→Prop,(∀ di H',N di H'→∃ m',m' < m∧W (i+1) m' di H')∧∀ x H',(Lf K a).Fq i H x H'→g x σ H' fun gy H2=>tb { D with nx:=N,ct:=N,bk:=D.nx } gy H2):=by
 refine ⟨fun i m σ H=>m=xs.length - i∧i≤xs.length∧Pv i σ H,⟨xs.length,by simp,Nat.zero_le _,h0⟩,?_⟩;rintro i m σ H ⟨rfl,hi,p⟩;have q:=hl i σ H hi p;by_cases iD:i < xs.length
 ·refine .inr ⟨⟨xs,xs[i],q,by simp [iD]⟩,Pv (i+1),fun di H' p'=>⟨xs.length - (i+1),by omega,rfl,iD,p'⟩,fun v H' y=>?_⟩;obtain ⟨T,x,rfl,hT,rfl,y⟩:=y;exact hs i x T σ _ (y xs q) p hT
 ·have e:i=xs.length:=by omega
  subst e;exact .inl ⟨⟨xs,q,Nat.le_refl _⟩,hd σ H p⟩
end L2
namespace NK
open PySem L2
theorem x_v0 {v:V} {σ:St} {H:Hp} {Q:VK}:tVar 0 (some v::σ) H Q=Q v H:=propext ⟨fun ⟨_,e,q⟩=>by cases e;exact q,fun q=>⟨_,rfl,q⟩⟩
theorem x_vS {n:Nat} {x:Option V} {σ:St} {H:Hp} {Q:VK}:tVar (n+1) (x::σ) H Q=tVar n σ H Q:=rfl
theorem x_I0 {g:Int→Int→V} {i j:Int} {H:Hp} {Q:VK}:rI0 g (.int i) (.int j) H Q=Q (g i j) H:=propext ⟨fun ⟨_,_,e,f,q⟩=>by cases e;cases f;exact q,fun q=>⟨_,_,rfl,rfl,q⟩⟩
theorem x_I {C:Int→Int→Prop} {g:Int→Int→V} {i j:Int} {H:Hp} {Q:VK}:rI C g (.int i) (.int j) H Q=(C i j∧Q (g i j) H):=propext ⟨fun ⟨_,_,e,f,q⟩=>by cases e;cases f;exact q,fun q=>⟨_,_,rfl,rfl,q⟩⟩
theorem x_U {g:Int→V} {i:Int} {H:Hp} {Q:VK}:rU g (.int i) H Q=Q (g i) H:=propext ⟨fun ⟨_,e,q⟩=>by cases e;exact q,fun q=>⟨_,rfl,q⟩⟩
theorem x_bl {b:Bool} {Q:Bool→Prop}:(∃ c,V.bl b=V.bl c∧Q c)=Q b:=propext ⟨fun ⟨_,e,q⟩=>by cases e;exact q,fun q=>⟨_,rfl,q⟩⟩
theorem x_int {b:Int} {Q:Int→Prop}:(∃ c,V.int b=V.int c∧Q c)=Q b:=propext ⟨fun ⟨_,e,q⟩=>by cases e;exact q,fun q=>⟨_,rfl,q⟩⟩
theorem x_ref {b:Addr} {Q:Addr→Prop}:(∃ c,V.ref b=V.ref c∧Q c)=Q b:=propext ⟨fun ⟨_,e,q⟩=>by cases e;exact q,fun q=>⟨_,rfl,q⟩⟩
theorem cy {K:PySem.W.Frag} {H:Hp} {x C:Addr} {dx} {fs} {f:Str} {v0:V} (hx:H x=some (.ins C dx fs)) (hC:GP K C) (hN:fL K C f) (hl:fs.lookup f=some v0) {Q:V→Prop} :
   (∃ a C dx fs v,V.ref x=.ref a∧H a=some (.ins C dx fs)∧GP K C∧fL K C f∧fs.lookup f=some v∧Q v)=Q v0:=by
  refine propext ⟨fun ⟨a,C',Pq,Sj,v,e,h,_,_,l,q⟩=>?_,fun q=>⟨_,_,_,_,_,rfl,hx,hC,hN,hl,q⟩⟩;cases e;rw [hx] at h;cases h;rw [hl] at l;cases l;exact q
theorem eV {xs:List V} {i:Int} {u0:V} (h:Cz xs i=some u0) {Q:V→Prop}:(∃ j u,V.int i=.int j∧Cz xs j=some u∧Q u)=Q u0:=by
 refine propext ⟨fun ⟨j,u,e,l,q⟩=>?_,fun q=>⟨_,_,rfl,h,q⟩⟩;cases e;rw [h] at l;cases l;exact q
theorem x_g0 {v:V} {x:Option V} {σ:St} {H:Hp} {Q:St→Hp→Prop}:gName 0 v (x::σ) H Q=Q (some v::σ) H:=rfl
theorem x_gS {n:Nat} {v:V} {x:Option V} {σ:St} {H:Hp} {Q:St→Hp→Prop}:gName (n+1) v (x::σ) H Q=gName n v σ H (fun di H'=>Q (x::di) H'):=rfl
theorem x_s1 {i j:Int}:Fv (.int i) (.int j)=true:=rfl
theorem x_s2 {a b:Bool}:Fv (.bl a) (.bl b)=true:=rfl
theorem x_s3 {i:Int}:Fv (.int i) .dR=true:=rfl
theorem x_s4:Fv .dR .dR=true:=rfl
end NK
namespace NK
theorem Vi {α:Type} {l:List α} (h:l.length=3):∃ a b c,l=[a,b,c]:=match l,h with | [a,b,c],_=>⟨a,b,c,rfl⟩
theorem Vj {α:Type} {l:List α} (h:l.length=2):∃ a b,l=[a,b]:=match l,h with | [a,b],_=>⟨a,b,rfl⟩
end NK
namespace NK
open PySem L2
noncomputable def top (i:Nat):Stmt:=PySem.Challenge.pw_ninekinds_s01_answers.main.body.getD i (.Pass ⟨0,0,0,0⟩)
noncomputable abbrev iI:Stmt:=inClass (top 11) 0
theorem sf:ay ["self","sign","size","power"] ["self","sign","size","power"] (ak iI):=⟨rfl,rfl,rfl,by decide +kernel,rfl,by decide +kernel,by decide +kernel⟩
noncomputable abbrev xw:Stmt:=top 12
theorem Ga:ay ["way"] ["way"] (ak xw):=⟨rfl,rfl,rfl,by decide +kernel,rfl,by decide +kernel,by decide +kernel⟩
noncomputable abbrev uz:Stmt:=top 13
theorem Ds:ay ["kind","bits"] ["kind","bits"] (ak uz):=⟨rfl,rfl,rfl,by decide +kernel,rfl,by decide +kernel,by decide +kernel⟩
noncomputable abbrev kX:Stmt:=top 14
theorem vH:ay ["kind","bits"] ["kind","bits"] (ak kX):=⟨rfl,rfl,rfl,by decide +kernel,rfl,by decide +kernel,by decide +kernel⟩
noncomputable abbrev mE:Stmt:=top 15
theorem xx:ay ["kind","bits"] ["kind","bits"] (ak mE):=⟨rfl,rfl,rfl,by decide +kernel,rfl,by decide +kernel,by decide +kernel⟩
noncomputable abbrev uA:Stmt:=top 16
theorem Dt:ay ["kind","bits"] ["kind","bits"] (ak uA):=⟨rfl,rfl,rfl,by decide +kernel,rfl,by decide +kernel,by decide +kernel⟩
noncomputable abbrev pM:Stmt:=top 18
theorem Ao:ay ["kind","sign","bits"] ["kind","sign","bits"] (ak pM):=⟨rfl,rfl,rfl,by decide +kernel,rfl,by decide +kernel,by decide +kernel⟩
noncomputable abbrev ji:Stmt:=top 19
theorem fU:ay ["kind","bits","size","step","above"] ["kind","bits"] (ak ji):=⟨rfl,rfl,rfl,by decide +kernel,rfl,by decide +kernel,by decide +kernel⟩
noncomputable abbrev j8:Stmt:=top 20
theorem uB:ay ["sign","way"] ["sign","way"] (ak j8):=⟨rfl,rfl,rfl,by decide +kernel,rfl,by decide +kernel,by decide +kernel⟩
noncomputable abbrev h9:Stmt:=top 21
theorem eC:ay ["size","drop","sign","way","kept","lost","half"] ["size","drop","sign","way"] (ak h9):=⟨rfl,rfl,rfl,by decide +kernel,rfl,by decide +kernel,by decide +kernel⟩
noncomputable abbrev jj:Stmt:=top 22
theorem dk:ay ["kind","number","way","drop","size","above","bits"] ["kind","number","way"] (ak jj):=⟨rfl,rfl,rfl,by decide +kernel,rfl,by decide +kernel,by decide +kernel⟩
noncomputable abbrev eW:Stmt:=top 23
theorem nF:ay ["kind","sign","way"] ["kind","sign","way"] (ak eW):=⟨rfl,rfl,rfl,by decide +kernel,rfl,by decide +kernel,by decide +kernel⟩
noncomputable abbrev iJ:Stmt:=top 24
theorem sh:ay ["whole"] ["whole"] (ak iJ):=⟨rfl,rfl,rfl,by decide +kernel,rfl,by decide +kernel,by decide +kernel⟩
noncomputable abbrev eX:Stmt:=top 25
theorem nG:ay ["kind","whole","way"] ["kind","whole","way"] (ak eX):=⟨rfl,rfl,rfl,by decide +kernel,rfl,by decide +kernel,by decide +kernel⟩
noncomputable abbrev iK:Stmt:=top 26
theorem kY:ay ["number","way","size"] ["number","way"] (ak iK):=⟨rfl,rfl,rfl,by decide +kernel,rfl,by decide +kernel,by decide +kernel⟩
noncomputable abbrev uC:Stmt:=top 31
theorem Du:ay ["kind"] ["kind"] (ak uC):=⟨rfl,rfl,rfl,by decide +kernel,rfl,by decide +kernel,by decide +kernel⟩
noncomputable abbrev pN:Stmt:=top 32
theorem Ap:ay ["kind"] ["kind"] (ak pN):=⟨rfl,rfl,rfl,by decide +kernel,rfl,by decide +kernel,by decide +kernel⟩
noncomputable abbrev si:Stmt:=top 33
theorem B5:ay ["kind"] ["kind"] (ak si):=⟨rfl,rfl,rfl,by decide +kernel,rfl,by decide +kernel,by decide +kernel⟩
noncomputable abbrev mG:Stmt:=top 34
theorem xy:ay ["kind"] ["kind"] (ak mG):=⟨rfl,rfl,rfl,by decide +kernel,rfl,by decide +kernel,by decide +kernel⟩
noncomputable abbrev jk:Stmt:=top 35
theorem tH:ay ["kind"] ["kind"] (ak jk):=⟨rfl,rfl,rfl,by decide +kernel,rfl,by decide +kernel,by decide +kernel⟩
noncomputable abbrev pO:Stmt:=top 36
theorem Aq:ay ["kind","whole"] ["kind","whole"] (ak pO):=⟨rfl,rfl,rfl,by decide +kernel,rfl,by decide +kernel,by decide +kernel⟩
noncomputable abbrev j9:Stmt:=top 37
theorem uD:ay ["kind","bits"] ["kind","bits"] (ak j9):=⟨rfl,rfl,rfl,by decide +kernel,rfl,by decide +kernel,by decide +kernel⟩
noncomputable abbrev kd:Stmt:=top 38
theorem uE:ay ["kind","whole"] ["kind","whole"] (ak kd):=⟨rfl,rfl,rfl,by decide +kernel,rfl,by decide +kernel,by decide +kernel⟩
noncomputable def tI (l:List Int):List V:=l.map V.int
noncomputable def Dv:List Int:=[0,0,0,0,0,0,11,24,53]
noncomputable def pP:List Int:=[0,0,0,0,0,0,-24,-149,-1074]
noncomputable def IA:List Int:=[0,0,0,0,0,0,32768,2147483648,9223372036854775808]
noncomputable def xA:List Int:=[0,0,0,0,0,0,31744,2139095040,9218868437227405312]
noncomputable def uF:List Int:=[0,0,0,0,0,0,32256,2143289344,9221120237041090560]
noncomputable def MN:List Int:=[16,16,32,32,64,64]
theorem ip {k:Nat} (h:Bk k):Cz (tI Dv) (k:Int)=some (.int (Rd18.digits k)):=by rcases h with rfl | rfl | rfl <;> rfl
theorem tJ {k:Nat} (h:Bk k):Cz (tI pP) (k:Int)=some (.int (bj k)):=by rcases h with rfl | rfl | rfl <;> rfl
theorem cG {k:Nat} (h:Bk k):Cz (tI IA) (k:Int)=some (.int (bp k)):=by rcases h with rfl | rfl | rfl <;> rfl
theorem eG {k:Nat} (h:Bk k):Cz (tI xA) (k:Int)=some (.int (Rd18.infinity k)):=by rcases h with rfl | rfl | rfl <;> rfl
theorem gd {k:Nat} (h:Bk k):Cz (tI uF) (k:Int)=some (.int (Rd18.plain k)):=by rcases h with rfl | rfl | rfl <;> rfl
theorem ma {k:Nat} (h:k < 6):Cz (tI MN) (k:Int)=some (.int (Rd18.width k)):=by
 have h6:k=0∨k=1∨k=2∨k=3∨k=4∨k=5:=by omega
 rcases h6 with rfl | rfl | rfl | rfl | rfl | rfl <;> rfl
noncomputable abbrev fF (s m e:Int):List (Str×V):=[("sign",.int s),("size",.int m),("power",.int e)]
theorem cw (s m e:Int):(fF s m e).lookup ("sign":Str)=some (V.int s):=by
 rw [List.lookup_cons,show (("sign":Str) == "sign")=true from by decide +kernel]
theorem cx (s m e:Int):(fF s m e).lookup ("size":Str)=some (V.int m):=by
 rw [List.lookup_cons,show (("size":Str) == "sign")=false from by decide +kernel,List.lookup_cons,show (("size":Str) == "size")=true from by decide +kernel]
theorem bW (s m e:Int):(fF s m e).lookup ("power":Str)=some (V.int e):=by
 rw [List.lookup_cons,show (("power":Str) == "sign")=false from by decide +kernel,List.lookup_cons,show (("power":Str) == "size")=false from by decide +kernel,List.lookup_cons,show (("power":Str) == "power")=true from by decide +kernel]
structure Tx (K:PySem.W.Frag) (mg:Str→Option Value) (CF:Addr):Prop where
 cT:cZ mg "NEAREST" 0
 xB:cZ mg "DOWN" 1
 Kw:cZ mg "UP" 2
 iL:cZ mg "TOWARDS_ZERO" 3
 iM:Al K mg "PLACES" (tI Dv)
 fE:Al K mg "LEAST_POWER" (tI pP)
 fV:Al K mg "MINUS" (tI IA)
 cj:Al K mg "INFINITY" (tI xA)
 bE:Al K mg "NO_NUMBER" (tI uF)
 pQ:Al K mg "BITS" (tI MN)
 iN:cZ mg "FIRST_BROKEN" 6
 md:cZ mg "LAST_KIND" 8
 vx:mg "max"=none
 xC:mg "min"=none
 zG:mg "abs"=none
 kz:mg "len"=none
 xD:mg "all"=none
 Ar:mg "list"=none
 i8:GP K CF
 uG:fL K CF "sign"
 uH:fL K CF "size"
 uI:fL K CF "power"
noncomputable def sg (neg:Bool):Int:=if neg then 1 else 0
theorem sg_inj (a b:Bool):(sg a=sg b)=(a=b):=by cases a <;> cases b <;> simp [sg]
end NK
local macro_rules | `(tactic| simp_arith [$xs,*]) => `(tactic| ((try simp only [L2.start, L2.cxOf_K, List.map_cons, List.map_nil, List.cons_append, List.nil_append, List.length_cons, List.length_nil, Nat.reduceAdd, Nat.reduceSub, List.replicate_succ, List.replicate_zero]); simp only [↓NK.x_v0, ↓NK.x_vS, ↓NK.x_g0, ↓NK.x_gS, ↓NK.x_I0, ↓NK.x_I, ↓NK.x_U, ↓NK.x_bl, ↓NK.x_int, ↓NK.x_ref, ↓L2.tSeq, ↓L2.tRet, ↓L2.tIf, ↓L2.tIfS, ↓L2.tTest, ↓L2.tB, ↓L2.tOp, ↓L2.tUn, L2.tVar, ↓L2.tC, ↓L2.tGix, ↓L2.tChain, ↓L2.tAnd, ↓L2.tOr, ↓L2.tNot, ↓L2.tAndV, ↓L2.tOrV, ↓L2.tNotV, ↓L2.tCons, ↓L2.tNil, ↓L2.tCB, ↓L2.tCall, L2.start, L2.rI0, L2.rI, L2.rU, L2.rEq, L2.rNe, NK.x_s1, NK.x_s2, NK.x_s3, NK.x_s4, ↓L2.tBitlen, ↓L2.tBM0, L2.tyV, ↓L2.tAsg, L2.gName, ↓L2.tFld, List.map_cons, List.map_nil, List.cons_append, List.nil_append, List.append_nil, List.length_cons, List.length_nil, Nat.reduceAdd, Nat.reduceSub, List.replicate_succ, List.replicate_zero, List.set_cons_zero, List.set_cons_succ, List.getElem?_cons_zero, List.getElem?_cons_succ, Option.some.injEq, ↓exists_eq_left', ↓exists_eq_left, exists_and_left, L2.V.int.injEq, L2.V.bl.injEq, L2.V.ref.injEq, List.cons.injEq, and_true, true_and, and_self, L2.dec_int, beq_iff_eq, exists_const, ↓L2.tNext, decide_eq_true_eq, Int.natCast_inj, NK.sg_inj, and_assoc, L2.cxOf_K, L2.HO.ins.injEq, exists_eq_right_right, exists_eq_right, if_true, if_false, Bool.false_eq_true, $xs,*]))
namespace NK
open PySem L2
section
variable {P:Program} {w:World} {K:PySem.W.Frag} {mg:Str→Option Value} {base:Heap} {f CF:Addr} {fd:FuncData}
noncomputable def IB:Sp:=fun vs H Q _=>∃ i:Int,vs=[.int i]∧Q (.bl (decide (0≤i∧i≤3))) H
theorem Gb (T:Tx K mg CF) (D:aX K mg "is_way" xw ["way"] f fd):ae P w K mg base 1 "is_way" ["way"] IB:=by
 refine ae.of D Ga (fun vs H Q E h=>?_) (fun bJ A outer s H vs Q E hr h=>?_)
 ·obtain ⟨i,rfl,_⟩:=h;rfl
 ·obtain ⟨i,rfl,q⟩:=h;refine ⟨_,(aj (ao (kT gK gK (aM T.cT) (pv 0) (aM T.iL)))),?_⟩;simp_arith [];by_cases h0:0≤i
  ·simpa [h0] using q
  ·simpa [h0] using q
noncomputable def fM:Sp:=fun vs H Q _=>∃ k b:Nat,vs=[.int k,.int b]∧Bk k∧Q (.int (sg (a9 k b))) H
theorem Dw (T:Tx K mg CF) (D:aX K mg "sign_of" uz ["kind","bits"] f fd):ae P w K mg base 1 "sign_of" ["kind","bits"] fM:=by
 refine ae.of D Ds (fun vs H Q E h=>?_) (fun bJ A outer s H vs Q E hr h=>?_)
 ·obtain ⟨k,b,rfl,_⟩:=h;rfl
 ·obtain ⟨k,b,rfl,hk,q⟩:=h;refine ⟨_,(aj (ao (br (aG Ew (pv 1) (bo T.fV (pv 0)) (aJ _)) ar ar))),?_⟩;simp_arith [cG hk,↓eV (cG hk)];unfold sg a9 at q;by_cases h0:bp k≤b
  ·simpa [h0] using q
  ·simpa [h0] using q
noncomputable def cW:Sp:=fun vs H Q _=>∃ k b:Nat,vs=[.int k,.int b]∧Bk k∧Q (.bl (decide (Rd18.infinity k < aq k b))) H
theorem vI (T:Tx K mg CF) (D:aX K mg "is_no_number" kX ["kind","bits"] f fd):ae P w K mg base 1 "is_no_number" ["kind","bits"] cW:=by
 refine ae.of D vH (fun vs H Q E h=>?_) (fun bJ A outer s H vs Q E hr h=>?_)
 ·obtain ⟨k,b,rfl,_⟩:=h;rfl
 ·obtain ⟨k,b,rfl,hk,q⟩:=h;refine ⟨_,(aj (ao (dM Bu (aT hY (pv 1) (bo T.fV (pv 0))) (bo T.cj (pv 0)) (aJ _)))),?_⟩;simp_arith [cG hk,eG hk,jf,ph,Int.ofNat_lt,↓eV (cG hk),↓eV (eG hk)];exact q
noncomputable def cb:Sp:=fun vs H Q _=>∃ k b:Nat,vs=[.int k,.int b]∧Bk k∧Q (.bl (decide (aq k b=Rd18.infinity k))) H
theorem xE (T:Tx K mg CF) (D:aX K mg "is_infinite" mE ["kind","bits"] f fd):ae P w K mg base 1 "is_infinite" ["kind","bits"] cb:=by
 refine ae.of D xx (fun vs H Q E h=>?_) (fun bJ A outer s H vs Q E hr h=>?_)
 ·obtain ⟨k,b,rfl,_⟩:=h;rfl
 ·obtain ⟨k,b,rfl,hk,q⟩:=h;refine ⟨_,(aj (ao (dM bD (aT hY (pv 1) (bo T.fV (pv 0))) (bo T.cj (pv 0)) (aJ _)))),?_⟩;simp_arith [cG hk,eG hk,jf,ph,Int.natCast_inj,↓eV (cG hk),↓eV (eG hk)];exact q
noncomputable def gf:Sp:=fun vs H Q _=>∃ k b:Nat,vs=[.int k,.int b]∧Bk k∧Q (.bl (decide (aq k b=0))) H
theorem Dx (T:Tx K mg CF) (D:aX K mg "is_zero" uA ["kind","bits"] f fd):ae P w K mg base 1 "is_zero" ["kind","bits"] gf:=by
 refine ae.of D Dt (fun vs H Q E h=>?_) (fun bJ A outer s H vs Q E hr h=>?_)
 ·obtain ⟨k,b,rfl,_⟩:=h;rfl
 ·obtain ⟨k,b,rfl,hk,q⟩:=h;refine ⟨_,(aj (ao (dM bD (aT hY (pv 1) (bo T.fV (pv 0))) ar (aJ _)))),?_⟩;simp_arith [cG hk,eG hk,jf,ph,↓eV (cG hk),↓eV (eG hk)];have e:decide ((aq k b:Int)=0)=decide (aq k b=0):=by congr 1;simp
  first | (rw [e];exact q) | (simpa using q)
noncomputable def c8:Sp:=fun vs H Q _=>∃ (k b:Nat) (neg:Bool),vs=[.int k,.int (sg neg),.int b]∧Bk k∧Q (.int (Rd18.sign k neg b)) H
theorem As (T:Tx K mg CF) (D:aX K mg "with_sign" pM ["kind","sign","bits"] f fd):ae P w K mg base 1 "with_sign" ["kind","sign","bits"] c8:=by
 refine ae.of D Ao (fun vs H Q E h=>?_) (fun bJ A outer s H vs Q E hr h=>?_)
 ·obtain ⟨k,b,neg,rfl,_⟩:=h;rfl
 ·obtain ⟨k,b,neg,rfl,hk,q⟩:=h;refine ⟨_,(aj (ao (br (aG bD (pv 1) ar (aJ _)) (aT eh (pv 2) (bo T.fV (pv 0))) (pv 2)))),?_⟩;simp_arith [cG hk,↓eV (cG hk)];cases neg
  ·simpa [sg,Rd18.sign] using q
  ·simpa [sg,Rd18.sign,bp] using q
noncomputable def nH:Sp:=fun vs H Q _=>∃ (neg:Bool) (w:Nat),vs=[.int (sg neg),.int w]∧Q (.bl (decide (if neg=true then w=1 else w=2))) H
theorem uJ (T:Tx K mg CF) (D:aX K mg "leads_outward" j8 ["sign","way"] f fd):ae P w K mg base 1 "leads_outward" ["sign","way"] nH:=by
 refine ae.of D uB (fun vs H Q E h=>?_) (fun bJ A outer s H vs Q E hr h=>?_)
 ·obtain ⟨neg,w,rfl,_⟩:=h;rfl
 ·obtain ⟨neg,w,rfl,q⟩:=h;refine ⟨_,(aj (ao (br (aG bD (pv 0) ar (aJ _)) (dM bD (pv 1) (aM T.xB) (aJ _)) (dM bD (pv 1) (aM T.Kw) (aJ _))))),?_⟩;simp_arith [];have e1:decide ((w:Int)=1)=decide (w=1):=by congr 1;simp;omega
  have e2:decide ((w:Int)=2)=decide (w=2):=by congr 1;simp;omega
  cases neg
  ·simpa [sg,e1,e2] using q
  ·simpa [sg,e1,e2] using q
theorem kZ (m:Nat):xq (m:Int)=bq m:=by
 unfold xq Builtin.Int.intBits bq;by_cases h:m=0
 ·subst h;rfl
 ·rw [if_neg h,if_neg (by simpa using h)];simp
theorem iq (m:Nat):(Builtin.Int.intBits (m:Int):Int)=bq m:=kZ m
noncomputable def zH:Sp:=fun vs H Q _=>∃ (m w:Nat) (neg:Bool) (D:Int),vs=[.int m,.int D,.int (sg neg),.int w]∧w≤3∧bq m≤60000∧-70000≤D∧D≤70000∧Q (.int (cM w neg m D)) H
theorem qW (T:Tx K mg CF) (dW:ae P w K mg base 1 "leads_outward" ["sign","way"] nH) (D:aX K mg "without_low_bits" h9 ["size","drop","sign","way"] f fd):ae P w K mg base 2 "without_low_bits" ["size","drop","sign","way"] zH:=by
 refine ae.of D eC (fun vs H Q E h=>?_) (fun bJ A outer s H vs Q E hr h=>?_)
 ·obtain ⟨m,w,neg,D,rfl,_⟩:=h;rfl
 ·obtain ⟨m,w,neg,D,rfl,hw,hm,OY,rP,q⟩:=h;refine ⟨_,(ai (aR (aG gK (pv 1) ar (aJ _)) (aj (ao (aT d4 (pv 0) (pD kS (pv 1))))) aw)
   (ai (aO (i:=4) eC.nd rfl (by first | exact Or.inl rfl | exact Or.inr rfl) (aT z6 (pv 0) (pv 1)))
   (ai (aO (i:=5) eC.nd rfl (by first | exact Or.inl rfl | exact Or.inr rfl) (aT cP (pv 0) (aT d4 (pv 4) (pv 1))))
   (ai (aR (aG bD (pv 5) ar (aJ _)) (aj (ao (pv 4))) aw)
   (ai (aR (aG bD (pv 3) (aM T.cT) (aJ _)) (ai (aO (i:=6) eC.nd rfl (by first | exact Or.inl rfl | exact Or.inr rfl) (aT d4 ar (aT cP (pv 1) ar)))
   (aj (ao (br (PW.pt (ku (aG Bu (pv 5) (pv 6) (aJ _)) (hW (PW.pt (fK (aG bD (pv 5) (pv 6) (aJ _)) (gx (aG bD (aT hY (pv 4) ar) ar (aJ _)))))))) (aT eh (pv 4) ar) (pv 4))))) aw)
   (aj (ao (br (aN (ah dW (hr.mono (by decide)) (aa (pv 2) (aa (pv 3) ag)))) (aT eh (pv 4) ar) (pv 4))))))))),?_⟩
  simp_arith [nH];by_cases h0:D≤0
  ·rw [if_pos h0];rw [du h0] at q;refine ⟨⟨by omega,by rw [iq];omega⟩,?_⟩;rw [pj];exact q
  ·rw [if_neg h0];have hp:0 < D:=by omega
   have hb:=Bg m D.toNat;rw [ue hw hp] at q;rw [wG,pj,Fd,cD,Int.one_mul];generalize m / 2 ^ D.toNat=qq at *
   generalize m % 2 ^ D.toNat=r at *
   generalize 2 ^ (D - 1).toNat=hh at *
   refine ⟨by omega,⟨by omega,by rw [iq];omega⟩,?_⟩;have e1:((r:Int)=0)=(r=0):=by simp
   have e2:((w:Int)=0)=(w=0):=by simp
   have e3:((qq:Int) % 2=1)=(qq % 2=1):=by apply propext;omega
   have c1:Dk 1 (D - 1):=⟨by omega,by show (1:Int)+(D - 1)≤_;omega⟩;have p2:(0:Int) < 2:=by decide
   have e5:((qq:Int)+1)=((qq+1:Nat):Int):=by omega
   simp only [e1,e2,e3,e5,Int.natCast_inj,Int.ofNat_lt,c1,p2,true_and];by_cases a1:r=0
   ·simpa only [a1,if_true] using q
   ·simp only [a1,if_false] at q ⊢;by_cases a2:w=0
    ·simp only [a2,if_true] at q ⊢;by_cases a3:hh < r
     ·simpa only [a3,if_true,true_or] using q
     ·by_cases a4:r=hh
      ·by_cases a5:qq % 2=1
       ·simpa only [a3,a4,a5,if_true,if_false,true_and,or_true,Nat.lt_irrefl] using q
       ·simpa only [a3,a4,a5,if_true,if_false,true_and,and_false,or_false,Nat.lt_irrefl] using q
      ·simpa only [a3,a4,if_false,false_and,or_false] using q
    ·simp only [a2,if_false] at q ⊢;by_cases a6:(if neg=true then w=1 else w=2)
     ·simpa only [a6,if_true] using q
     ·simpa only [a6,if_false] using q
end
section
variable {P:Program} {w:World} {K:PySem.W.Frag} {mg:Str→Option Value} {base:Heap} {f CF:Addr} {fd:FuncData}
noncomputable def xF:Sp:=fun vs H Q _=>∃ (k w:Nat) (neg:Bool),vs=[.int k,.int (sg neg),.int w]∧Bk k∧Q (.int ((if Rd18.over w neg=true then Rd18.infinity k else Rd18.infinity k - 1:Nat):Int)) H
theorem tK {k:Nat} (h:Bk k):1≤Rd18.infinity k:=by rcases h with rfl | rfl | rfl <;> decide
theorem nI (T:Tx K mg CF) (dW:ae P w K mg base 1 "leads_outward" ["sign","way"] nH) (D:aX K mg "bits_beyond_greatest" eW ["kind","sign","way"] f fd) :
  ae P w K mg base 2 "bits_beyond_greatest" ["kind","sign","way"] xF:=by
 refine ae.of D nF (fun vs H Q E h=>?_) (fun bJ A outer s H vs Q E hr h=>?_)
 ·obtain ⟨k,w,neg,rfl,_⟩:=h;rfl
 ·obtain ⟨k,w,neg,rfl,hk,q⟩:=h;refine ⟨_,(ai (aR (PW.pt (ku (aG bD (pv 2) (aM T.cT) (aJ _)) (hW (aN (ah dW (hr.mono (by decide)) (aa (pv 1) (aa (pv 2) ag))))))) (aj (ao (bo T.cj (pv 0)))) aw)
   (aj (ao (aT cP (bo T.cj (pv 0)) ar)))),?_⟩
  have hi:=tK hk;simp_arith [nH,eG hk,↓eV (eG hk)];have e2:((w:Int)=0)=(w=0):=by simp
  have e3:((Rd18.infinity k:Int) - 1)=((Rd18.infinity k - 1:Nat):Int):=by omega
  simp only [e2,e3];by_cases a1:w=0
  ·simpa [a1,Rd18.over] using q
  ·cases neg <;> by_cases a2:w=1 <;> by_cases a3:w=2 <;> simp_all [Rd18.over]
theorem Gc {CI:Addr} (T:Tx K mg CF) (hm:mg "Finite"=some (.ref CF)) (M:Mk K CF f) (F:F0 K "__init__" "Finite.__init__" iI f fd) (hb:Binds K fd ["self","sign","size","power"] []):lO P w K mg base 1 "Finite" CF ["sign","size","power"]:=by
 refine ⟨f,fd,hm,M,hb,F.ok (k:=0) sf (fun vs H Q E h=>?_) (fun bJ A outer s H vs Q E hr h=>?_)⟩
 ·obtain ⟨p,dx,ws,rfl,hl,_⟩:=h;show ws.length+1=4;rw [hl];rfl
 ·obtain ⟨p,dx,ws,rfl,hl,hp,q⟩:=h;obtain ⟨v1,v2,v3,rfl⟩:=Vi hl;refine ⟨_,(ai (kU (pv 0) (pv 1) rfl)
   (ai (kU (pv 0) (pv 2) rfl)
   (aj (kU (pv 0) (pv 3) rfl)))),?_⟩
  simp_arith [J2,hp,au,jE,T.i8,T.uG,T.uH,T.uI];have n1:¬ (("sign":Str) = "size"):=by decide +kernel
  have n2:¬ (("sign":Str) = "power"):=by decide +kernel
  have n3:¬ (("size":Str) = "power"):=by decide +kernel
  simp only [j6,n1,n2,n3,if_false,List.length_cons,List.length_nil];exact ⟨by decide,by decide,by decide,q _ au fun b hb=>aH hb⟩
noncomputable abbrev Dy (CF:Addr) (H H':Hp) (x:Addr) (neg:Bool) (m:Nat) (e:Int):Prop:=EM CF H H' x (fF (sg neg) m e)
noncomputable def nJ (CF:Addr):Sp:=fun vs H Q _=>∃ k b:Nat,vs=[.int k,.int b]∧Bk k∧∀ x H',Dy CF H H' x (a9 k b) (aS k (aq k b)) (bP k (aq k b))→Q (.ref x) H'
theorem tL (T:Tx K mg CF) (bG:lO P w K mg base 1 "Finite" CF ["sign","size","power"]) (bt:ae P w K mg base 1 "sign_of" ["kind","bits"] fM)
  (D:aX K mg "finite_of_bits" ji ["kind","bits"] f fd):ae P w K mg base 3 "finite_of_bits" ["kind","bits"] (nJ CF):=by
 refine ae.of D fU (fun vs H Q E h=>?_) (fun bJ A outer s H vs Q E hr h=>?_)
 ·obtain ⟨k,b,rfl,_⟩:=h;rfl
 ·obtain ⟨k,b,rfl,hk,q⟩:=h;refine ⟨_,(ai (aO (i:=2) fU.nd rfl (by first | exact Or.inl rfl | exact Or.inr rfl) (aT hY (pv 1) (bo T.fV (pv 0))))
   (ai (aO (i:=3) fU.nd rfl (by first | exact Or.inl rfl | exact Or.inr rfl) (aT z6 (pv 2) (aT cP (bo T.iM (pv 0)) ar)))
   (ai (aO (i:=4) fU.nd rfl (by first | exact Or.inl rfl | exact Or.inr rfl) (bA (qG rfl) (by rfl) T.vx xt (aa (aT cP (pv 3) ar) (aa ar ag))))
   (aj (ao (dQ bG (hr.mono (by decide)) (aa (ah bt (hr.mono (by decide)) (aa (pv 0) (aa (pv 1) ag))) (aa (aT cP (pv 2) (aT d4 (pv 4) (aT cP (bo T.iM (pv 0)) ar))) (aa (aT eh (bo T.fE (pv 0)) (pv 4)) ag))))))))),?_⟩
  simp_arith [fM,yU,cG hk,ip hk,tJ hk,jf,ph,List.zip_cons_cons,List.zip_nil_left,↓eV (cG hk),↓eV (ip hk),↓eV (tJ hk)];have hd:=dj hk;have ed:(((Rd18.digits k:Nat):Int) - 1).toNat=Rd18.digits k - 1:=by omega
  have ea:(if (0:Int) > (aq k b:Int) / 2 ^ (Rd18.digits k - 1) - 1 then (0:Int) else (aq k b:Int) / 2 ^ (Rd18.digits k - 1) - 1)=(cV k (aq k b):Int):=by
   rw [wG];unfold cV;split <;> omega
  rw [ed,ea,pj];have hle:cV k (aq k b)*2 ^ (Rd18.digits k - 1)≤aq k b:=by
   refine Nat.le_trans (Nat.mul_le_mul_right _ (Nat.sub_le _ _)) (Nat.div_mul_le_self _ _)
  have ez:(aq k b:Int) - ((cV k (aq k b)*2 ^ (Rd18.digits k - 1):Nat):Int)=(aS k (aq k b):Int):=by unfold aS;omega
  rw [ez];have K3:bq (cV k (aq k b))≤64:=by
   refine bK ?_;have h1:aq k b < bp k:=Nat.mod_lt _ (Nat.two_pow_pos _);have h2:bp k≤2 ^ 64:=by rcases hk with rfl | rfl | rfl <;> decide
   have h3:cV k (aq k b)≤aq k b:=Nat.le_trans (Nat.sub_le _ _) (Nat.div_le_self _ _);exact Nat.lt_of_le_of_lt h3 (Nat.lt_of_lt_of_le h1 h2)
  exact ⟨by omega,hk,⟨by omega,by rw [iq];omega⟩,q⟩
noncomputable def Ll (m:Nat) (e:Int):Prop:=bq m≤60000∧-30000≤e∧e≤30000
noncomputable def fW (CF:Addr):Sp:=fun vs H Q _=>∃ (k w m:Nat) (neg:Bool) (e:Int) (x dx:Addr),vs=[.int k,.ref x,.int w]∧Bk k∧w≤3∧H x=some (.ins CF dx (fF (sg neg) m e))∧Ll m e∧Q (.int (Rd18.rounded k w neg m e)) H
theorem tM (T:Tx K mg CF) (bh:ae P w K mg base 1 "with_sign" ["kind","sign","bits"] c8) (bV:ae P w K mg base 2 "without_low_bits" ["size","drop","sign","way"] zH)
  (eY:ae P w K mg base 2 "bits_beyond_greatest" ["kind","sign","way"] xF) (D:aX K mg "bits_of_finite" jj ["kind","number","way"] f fd):ae P w K mg base 3 "bits_of_finite" ["kind","number","way"] (fW CF):=by
 refine ae.of D dk (fun vs H Q E h=>?_) (fun bJ A outer s H vs Q E hr h=>?_)
 ·obtain ⟨k,w,m,neg,e,x,dx,rfl,_⟩:=h;rfl
 ·obtain ⟨k,w,m,neg,e,x,dx,rfl,hk,hw,hx,hb,q⟩:=h;refine ⟨_,(ai (aR (aG bD (aE (pv 1) rfl) ar (aJ _)) (aj (ao (ah bh (hr.mono (by decide)) (aa (pv 0) (aa (aE (pv 1) rfl) (aa ar ag)))))) aw)
   (ai (aO (i:=3) dk.nd rfl (by first | exact Or.inl rfl | exact Or.inr rfl) (bA (qG rfl) (by rfl) T.vx xt (aa (aT cP (nE (aE (pv 1) rfl)) (bo T.iM (pv 0))) (aa (aT cP (bo T.fE (pv 0)) (aE (pv 1) rfl)) ag))))
   (ai (aO (i:=4) dk.nd rfl (by first | exact Or.inl rfl | exact Or.inr rfl) (ah bV (hr.mono (by decide)) (aa (aE (pv 1) rfl) (aa (pv 3) (aa (aE (pv 1) rfl) (aa (pv 2) ag))))))
   (ai (aO (i:=5) dk.nd rfl (by first | exact Or.inl rfl | exact Or.inr rfl) (aT cP (aT eh (aE (pv 1) rfl) (pv 3)) (bo T.fE (pv 0))))
   (ai (aO (i:=6) dk.nd rfl (by first | exact Or.inl rfl | exact Or.inr rfl) (aT eh (aT d4 (pv 5) (aT cP (bo T.iM (pv 0)) ar)) (pv 4)))
   (ai (aR (aG Ew (pv 6) (bo T.cj (pv 0)) (aJ _)) (aj (aO (i:=6) dk.nd rfl (by first | exact Or.inl rfl | exact Or.inr rfl) (ah eY (hr.mono (by decide)) (aa (pv 0) (aa (aE (pv 1) rfl) (aa (pv 2) ag)))))) aw)
   (aj (ao (ah bh (hr.mono (by decide)) (aa (pv 0) (aa (aE (pv 1) rfl) (aa (pv 6) ag)))))))))))),?_⟩
  simp_arith [hx,cw,cx,bW,T.i8,T.uG,T.uH,T.uI,c8,zH,xF,cG hk,ip hk,tJ hk,eG hk,↓eV (cG hk),↓eV (ip hk),↓eV (tJ hk),↓eV (eG hk),↓cy hx T.i8 T.uG (cw _ _ _),↓cy hx T.i8 T.uH (cx _ _ _),↓cy hx T.i8 T.uI (bW _ _ _)];have hd:=dj hk;have O2:-2000≤bj k∧bj k≤0:=by rcases hk with rfl | rfl | rfl <;> decide
  have ed:(((Rd18.digits k:Nat):Int) - 1).toNat=Rd18.digits k - 1:=by omega
  obtain ⟨Kx,Bl,SK⟩:=hb;have GQ:=bL m;rw [kZ,ed];have eD:(if bj k - e > bq m - ((Rd18.digits k:Nat):Int) then bj k - e else bq m - ((Rd18.digits k:Nat):Int))=aW k m e:=by
   unfold aW;split <;> omega
  rw [eD];have OY:-70000≤aW k m e:=by unfold aW;omega
  have rP:aW k m e≤70000:=by unfold aW;omega
  have wq:bj k - e≤aW k m e:=Int.le_max_right _ _;obtain ⟨ab,JE⟩:∃ ab:Nat,e+aW k m e - bj k=(ab:Int):=⟨(e+aW k m e - bj k).toNat,by omega⟩;have eR:(e+aW k m e - bj k)*2 ^ (Rd18.digits k - 1)+(cM w neg m (aW k m e):Int)=(bR k w neg m e:Int):=by
   unfold bR;rw [JE,Int.toNat_natCast,pj];omega
  rw [eR];have e0:((m:Int)=0)=(m=0):=by simp
  simp only [e0,Int.natCast_inj,exists_eq_left',Int.ofNat_le];by_cases hm:m=0
  ·rw [if_pos hm];refine ⟨0,rfl,hk,?_⟩;rw [hm] at q;unfold Rd18.rounded at q;simpa using q
  ·rw [if_neg hm];rw [ee hk hm] at q;have K3:bq ab≤64:=by
    refine bK ?_;have h2:ab≤2 ^ 20:=by omega
    exact Nat.lt_of_le_of_lt h2 (by decide)
   refine ⟨hw,Kx,OY,rP,⟨by omega,by rw [JE,iq];omega⟩,?_⟩;by_cases hi:Rd18.infinity k≤bR k w neg m e
   ·rw [if_pos hi] at q ⊢;exact ⟨hk,hk,q⟩
   ·rw [if_neg hi] at q ⊢;exact ⟨hk,q⟩
noncomputable def Dz (CF:Addr):Sp:=fun vs H Q _=>∃ n:Int,vs=[.int n]∧∀ x H',Dy CF H H' x (decide (n < 0)) n.natAbs 0→Q (.ref x) H'
theorem sj (T:Tx K mg CF) (bG:lO P w K mg base 1 "Finite" CF ["sign","size","power"])
  (D:aX K mg "finite_of_whole" iJ ["whole"] f fd):ae P w K mg base 3 "finite_of_whole" ["whole"] (Dz CF):=by
 refine ae.of D sh (fun vs H Q E h=>?_) (fun bJ A outer s H vs Q E hr h=>?_)
 ·obtain ⟨n,rfl,_⟩:=h;rfl
 ·obtain ⟨n,rfl,q⟩:=h;refine ⟨_,(aj (ao (dQ bG (hr.mono (by decide)) (aa (br (aG vj (pv 0) ar (aJ _)) ar ar) (aa (bA xa (by rfl) T.zG Dl (aa (pv 0) ag)) (aa ar ag)))))),?_⟩;simp_arith [yU,List.zip_cons_cons,List.zip_nil_left];have e2:(if n < 0 then -n else n)=(n.natAbs:Int):=by split <;> omega
  rw [e2];by_cases hn:n < 0
  ·rw [if_pos hn];have e3:sg (decide (n < 0))=1:=by simp [sg,hn]
   simp only [Dy,fF,e3] at q;exact q
  ·rw [if_neg hn];have e3:sg (decide (n < 0))=0:=by simp [sg,hn]
   simp only [Dy,fF,e3] at q;exact q
noncomputable def xG (CF:Addr):Sp:=fun vs H Q _=>∃ (k w:Nat) (n:Int),vs=[.int k,.int n,.int w]∧Bk k∧w≤3∧bq n.natAbs≤60000∧∀ H',aB H H'→Q (.int (Rd18.rounded k w (decide (n < 0)) n.natAbs 0)) H'
theorem nK (T:Tx K mg CF) (iO:ae P w K mg base 3 "finite_of_whole" ["whole"] (Dz CF)) (aF:ae P w K mg base 3 "bits_of_finite" ["kind","number","way"] (fW CF))
  (D:aX K mg "bits_of_whole_number" eX ["kind","whole","way"] f fd):ae P w K mg base 4 "bits_of_whole_number" ["kind","whole","way"] (xG CF):=by
 refine ae.of D nG (fun vs H Q E h=>?_) (fun bJ A outer s H vs Q E hr h=>?_)
 ·obtain ⟨k,w,n,rfl,_⟩:=h;rfl
 ·obtain ⟨k,w,n,rfl,hk,hw,hb,q⟩:=h;refine ⟨_,(aj (ao (ah aF (hr.mono (by decide)) (aa (pv 0) (aa (ah iO (hr.mono (by decide)) (aa (pv 1) ag)) (aa (pv 2) ag)))))),?_⟩;simp_arith [Dz,fW];rintro x H' ⟨sm,_,dx,hx⟩;exact ⟨hk,hw,_,_,_,dx,hx,⟨hb,by decide,by decide⟩,q H' sm⟩
noncomputable def tN (CF:Addr):Sp:=fun vs H Q _=>∃ (w m:Nat) (neg:Bool) (e:Int) (x dx:Addr),vs=[.ref x,.int w]∧w≤3∧H x=some (.ins CF dx (fF (sg neg) m e))∧Ll m e∧Q (.int (Rd18.madeWhole w neg m e)) H
theorem sk (T:Tx K mg CF) (bV:ae P w K mg base 2 "without_low_bits" ["size","drop","sign","way"] zH)
  (D:aX K mg "whole_of_finite" iK ["number","way"] f fd):ae P w K mg base 3 "whole_of_finite" ["number","way"] (tN CF):=by
 refine ae.of D kY (fun vs H Q E h=>?_) (fun bJ A outer s H vs Q E hr h=>?_)
 ·obtain ⟨w,m,neg,e,x,dx,rfl,_⟩:=h;rfl
 ·obtain ⟨w,m,neg,e,x,dx,rfl,hw,hx,hb,q⟩:=h;refine ⟨_,(ai (aO (i:=2) kY.nd rfl (by first | exact Or.inl rfl | exact Or.inr rfl) (ah bV (hr.mono (by decide)) (aa (aE (pv 0) rfl) (aa (pD kS (aE (pv 0) rfl)) (aa (aE (pv 0) rfl) (aa (pv 1) ag))))))
   (aj (ao (br (aG bD (aE (pv 0) rfl) ar (aJ _)) (pD kS (pv 2)) (pv 2))))),?_⟩
  simp_arith [hx,cw,cx,bW,T.i8,T.uG,T.uH,T.uI,zH,↓cy hx T.i8 T.uG (cw _ _ _),↓cy hx T.i8 T.uH (cx _ _ _),↓cy hx T.i8 T.uI (bW _ _ _)];unfold Rd18.madeWhole at q;rw [jO] at q;obtain ⟨Kx,Bl,SK⟩:=hb;refine ⟨hw,Kx,by omega,by omega,?_⟩;rw [show (0:Int) - e=-e by omega] at q;cases neg
  ·simpa [sg] using q
  ·simpa [sg] using q
end
section
variable {P:Program} {w:World} {K:PySem.W.Frag} {mg:Str→Option Value} {base:Heap} {f CF:Addr} {fd:FuncData}
theorem IC {k:Nat} (h:k < 6):k=0∨k=1∨k=2∨k=3∨k=4∨k=5:=by omega
noncomputable def Au:Sp:=fun vs H Q _=>∃ i:Int,vs=[.int i]∧Q (.bl (decide (0≤i∧i≤8))) H
theorem DA (T:Tx K mg CF) (D:aX K mg "is_kind" uC ["kind"] f fd):ae P w K mg base 1 "is_kind" ["kind"] Au:=by
 refine ae.of D Du (fun vs H Q E h=>?_) (fun bJ A outer s H vs Q E hr h=>?_)
 ·obtain ⟨i,rfl,_⟩:=h;rfl
 ·obtain ⟨i,rfl,q⟩:=h;refine ⟨_,(aj (ao (kT gK gK ar (pv 0) (aM T.md)))),?_⟩;simp_arith [];by_cases h0:0≤i
  ·simpa [h0] using q
  ·simpa [h0] using q
noncomputable def cR:Sp:=fun vs H Q _=>∃ k:Nat,vs=[.int k]∧Q (.bl (decide (6≤k))) H
theorem Av (T:Tx K mg CF) (D:aX K mg "is_broken" pN ["kind"] f fd):ae P w K mg base 1 "is_broken" ["kind"] cR:=by
 refine ae.of D Ap (fun vs H Q E h=>?_) (fun bJ A outer s H vs Q E hr h=>?_)
 ·obtain ⟨i,rfl,_⟩:=h;rfl
 ·obtain ⟨i,rfl,q⟩:=h;refine ⟨_,(aj (ao (dM Ew (pv 0) (aM T.iN) (aJ _)))),?_⟩;simp_arith [];have e:decide ((6:Int)≤(i:Int))=decide (6≤i):=by congr 1;apply propext;omega
  rw [e];exact q
noncomputable def nL:Sp:=fun vs H Q _=>∃ k:Nat,vs=[.int k]∧k < 6∧Q (.bl (Rd18.signed k)) H
theorem B6 (T:Tx K mg CF) (D:aX K mg "has_sign" si ["kind"] f fd):ae P w K mg base 1 "has_sign" ["kind"] nL:=by
 refine ae.of D B5 (fun vs H Q E h=>?_) (fun bJ A outer s H vs Q E hr h=>?_)
 ·obtain ⟨i,rfl,_⟩:=h;rfl
 ·obtain ⟨i,rfl,hi,q⟩:=h;refine ⟨_,(aj (ao (dM bD (aT hY (pv 0) ar) ar (aJ _)))),?_⟩;simp_arith [];refine ⟨by decide,?_⟩;have e:decide ((i:Int) % 2=0)=Rd18.signed i:=by
   rcases IC hi with rfl | rfl | rfl | rfl | rfl | rfl <;> decide
  rw [e];exact q
noncomputable def xH (k:Nat):Int:=if Rd18.signed k=true then -(2 ^ (Rd18.width k - 1):Nat) else 0
noncomputable def B7 (k:Nat):Int:=if Rd18.signed k=true then (2 ^ (Rd18.width k - 1):Nat) - 1 else (2 ^ Rd18.width k:Nat) - 1
theorem pR {k:Nat} (h:k < 6):16≤Rd18.width k∧Rd18.width k≤64:=by rcases IC h with rfl | rfl | rfl | rfl | rfl | rfl <;> decide
theorem iP {n:Int} (h0:0≤n) (h1:n≤100000):Dk 1 n:=⟨h0,by show (1:Int)+n≤_;omega⟩
noncomputable def xI:Sp:=fun vs H Q _=>∃ k:Nat,vs=[.int k]∧k < 6∧Q (.int (xH k)) H
theorem xJ (T:Tx K mg CF) (jl:ae P w K mg base 1 "has_sign" ["kind"] nL) (D:aX K mg "least_whole" mG ["kind"] f fd):ae P w K mg base 2 "least_whole" ["kind"] xI:=by
 refine ae.of D xy (fun vs H Q E h=>?_) (fun bJ A outer s H vs Q E hr h=>?_)
 ·obtain ⟨i,rfl,_⟩:=h;rfl
 ·obtain ⟨k,rfl,hk,q⟩:=h;refine ⟨_,(ai (aR (aN (ah jl (hr.mono (by decide)) (aa (pv 0) ag))) (aj (ao (pD kS (aT d4 ar (aT cP (bo T.pQ (pv 0)) ar))))) aw)
   (aj (ao ar))),?_⟩
  have hw:=pR hk;simp_arith [nL,hk,ma hk,iP (show (0:Int)≤(Rd18.width k:Int) - 1 by omega) (by omega),↓eV (ma hk)];have e:((Rd18.width k:Int) - 1).toNat=Rd18.width k - 1:=by omega
  rw [e,cD,Int.one_mul];unfold xH at q;cases hs:Rd18.signed k
  ·simpa [hs] using q
  ·simpa [hs] using q
noncomputable def tO:Sp:=fun vs H Q _=>∃ k:Nat,vs=[.int k]∧k < 6∧Q (.int (B7 k)) H
theorem tP (T:Tx K mg CF) (jl:ae P w K mg base 1 "has_sign" ["kind"] nL) (D:aX K mg "greatest_whole" jk ["kind"] f fd):ae P w K mg base 2 "greatest_whole" ["kind"] tO:=by
 refine ae.of D tH (fun vs H Q E h=>?_) (fun bJ A outer s H vs Q E hr h=>?_)
 ·obtain ⟨i,rfl,_⟩:=h;rfl
 ·obtain ⟨k,rfl,hk,q⟩:=h;refine ⟨_,(ai (aR (aN (ah jl (hr.mono (by decide)) (aa (pv 0) ag))) (aj (ao (aT cP (aT d4 ar (aT cP (bo T.pQ (pv 0)) ar)) ar))) aw)
   (aj (ao (aT cP (aT d4 ar (bo T.pQ (pv 0))) ar)))),?_⟩
  have hw:=pR hk;simp_arith [nL,hk,ma hk,iP (show (0:Int)≤(Rd18.width k:Int) - 1 by omega) (by omega),iP (show (0:Int)≤(Rd18.width k:Int) by omega) (by omega),↓eV (ma hk)];have e:((Rd18.width k:Int) - 1).toNat=Rd18.width k - 1:=by omega
  rw [e,cD,cD,Int.one_mul,Int.one_mul,Int.toNat_natCast];unfold B7 at q;cases hs:Rd18.signed k
  ·simpa [hs] using q
  ·simpa [hs] using q
theorem Kz {k:Nat} (h:k < 6) (n:Int):Rd18.fits k n=decide (xH k≤n∧n≤B7 k):=by
 unfold Rd18.fits xH B7;rw [cD,cD];cases hs:Rd18.signed k
 ·simp only [Bool.false_eq_true,if_false];rw [Bool.eq_iff_iff];simp;omega
 ·simp only [if_true];rw [Bool.eq_iff_iff];simp;omega
noncomputable def so:Sp:=fun vs H Q _=>∃ (k:Nat) (n:Int),vs=[.int k,.int n]∧k < 6∧Q (.bl (Rd18.fits k n)) H
theorem Aw (T:Tx K mg CF) (mH:ae P w K mg base 2 "least_whole" ["kind"] xI) (dF:ae P w K mg base 2 "greatest_whole" ["kind"] tO)
  (D:aX K mg "has_whole" pO ["kind","whole"] f fd):ae P w K mg base 3 "has_whole" ["kind","whole"] so:=by
 refine ae.of D Aq (fun vs H Q E h=>?_) (fun bJ A outer s H vs Q E hr h=>?_)
 ·obtain ⟨k,n,rfl,_⟩:=h;rfl
 ·obtain ⟨k,n,rfl,hk,q⟩:=h;refine ⟨_,(aj (ao (kT gK gK (ah mH (hr.mono (by decide)) (aa (pv 0) ag)) (pv 1) (ah dF (hr.mono (by decide)) (aa (pv 0) ag))))),?_⟩;simp_arith [xI,tO,hk];rw [Kz hk] at q;by_cases h0:xH k≤n
  ·simpa [h0] using q
  ·simpa [h0] using q
noncomputable def jV:Sp:=fun vs H Q _=>∃ k b:Nat,vs=[.int k,.int b]∧k < 6∧b < 2 ^ Rd18.width k∧Q (.int (Rd18.whole k b)) H
theorem uK (T:Tx K mg CF) (dF:ae P w K mg base 2 "greatest_whole" ["kind"] tO)
  (D:aX K mg "whole_of_bits" j9 ["kind","bits"] f fd):ae P w K mg base 3 "whole_of_bits" ["kind","bits"] jV:=by
 refine ae.of D uD (fun vs H Q E h=>?_) (fun bJ A outer s H vs Q E hr h=>?_)
 ·obtain ⟨k,n,rfl,_⟩:=h;rfl
 ·obtain ⟨k,b,rfl,hk,hb,q⟩:=h;refine ⟨_,(ai (aR (aG Bu (pv 1) (ah dF (hr.mono (by decide)) (aa (pv 0) ag)) (aJ _)) (aj (ao (aT cP (pv 1) (aT d4 ar (bo T.pQ (pv 0)))))) aw)
   (aj (ao (pv 1)))),?_⟩
  have hw:=pR hk;simp_arith [tO,hk,ma hk,iP (show (0:Int)≤(Rd18.width k:Int) by omega) (by omega),↓eV (ma hk)];rw [Int.toNat_natCast,cD,Int.one_mul];unfold Rd18.whole at q;rw [cD] at q;unfold B7;cases hs:Rd18.signed k
  ·rw [if_neg (by simp [hs])] at q;rw [if_neg (by simp only [Bool.false_eq_true,if_false];omega)];exact q
  ·simp only [hs,true_and] at q;simp only [if_true];by_cases h1:2 ^ (Rd18.width k - 1)≤b
   ·rw [if_pos h1] at q;rw [if_pos (by omega)];exact q
   ·rw [if_neg h1] at q;rw [if_neg (by omega)];exact q
noncomputable def tQ:Sp:=fun vs H Q _=>∃ (k:Nat) (n:Int),vs=[.int k,.int n]∧k < 6∧Q (.int (Rd18.bitsOf k n)) H
theorem uL (T:Tx K mg CF) (D:aX K mg "bits_of_whole" kd ["kind","whole"] f fd):ae P w K mg base 1 "bits_of_whole" ["kind","whole"] tQ:=by
 refine ae.of D uE (fun vs H Q E h=>?_) (fun bJ A outer s H vs Q E hr h=>?_)
 ·obtain ⟨k,n,rfl,_⟩:=h;rfl
 ·obtain ⟨k,n,rfl,hk,q⟩:=h;refine ⟨_,(aj (ao (aT hY (pv 1) (aT d4 ar (bo T.pQ (pv 0)))))),?_⟩;have hw:=pR hk;simp_arith [ma hk,iP (show (0:Int)≤(Rd18.width k:Int) by omega) (by omega),↓eV (ma hk)];rw [Int.toNat_natCast,cD,Int.one_mul];have hp:(0:Int) < ((2 ^ Rd18.width k:Nat):Int):=by have:=Nat.two_pow_pos (Rd18.width k);omega
  refine ⟨hp,?_⟩;have e:n % ((2 ^ Rd18.width k:Nat):Int)=((Rd18.bitsOf k n:Nat):Int):=by
   unfold Rd18.bitsOf;rw [cD,Int.toNat_of_nonneg (Int.emod_nonneg _ (by omega))]
  rw [e];exact q
end
noncomputable abbrev uM:Stmt:=top 17
theorem DB:ay ["kind","bits"] ["kind","bits"] (ak uM):=⟨rfl,rfl,rfl,by decide +kernel,rfl,by decide +kernel,by decide +kernel⟩
noncomputable abbrev k0:Stmt:=top 45
theorem vJ:ay ["op"] ["op"] (ak k0):=⟨rfl,rfl,rfl,by decide +kernel,rfl,by decide +kernel,by decide +kernel⟩
noncomputable abbrev DC:Stmt:=top 46
theorem KA:ay ["kind","op","a","b"] ["kind","op","a","b"] (ak DC):=⟨rfl,rfl,rfl,by decide +kernel,rfl,by decide +kernel,by decide +kernel⟩
noncomputable abbrev n9:Stmt:=top 47
theorem yW:ay ["op","a","b"] ["op","a","b"] (ak n9):=⟨rfl,rfl,rfl,by decide +kernel,rfl,by decide +kernel,by decide +kernel⟩
noncomputable abbrev mI:Stmt:=top 48
theorem xK:ay ["kind","op","a","b"] ["kind","op","a","b"] (ak mI):=⟨rfl,rfl,rfl,by decide +kernel,rfl,by decide +kernel,by decide +kernel⟩
noncomputable abbrev Ax:Stmt:=top 49
theorem ID:ay ["kind","a","b"] ["kind","a","b"] (ak Ax):=⟨rfl,rfl,rfl,by decide +kernel,rfl,by decide +kernel,by decide +kernel⟩
noncomputable abbrev oa:Stmt:=top 50
theorem yX:ay ["kind","a","b"] ["kind","a","b"] (ak oa):=⟨rfl,rfl,rfl,by decide +kernel,rfl,by decide +kernel,by decide +kernel⟩
noncomputable abbrev pT:Stmt:=top 51
theorem oe:ay ["x","y","power","whole"] ["x","y"] (ak pT):=⟨rfl,rfl,rfl,by decide +kernel,rfl,by decide +kernel,by decide +kernel⟩
noncomputable abbrev mJ:Stmt:=top 52
theorem pU:ay ["x","power","size"] ["x","power"] (ak mJ):=⟨rfl,rfl,rfl,by decide +kernel,rfl,by decide +kernel,by decide +kernel⟩
noncomputable abbrev og:Stmt:=top 53
theorem rC:ay ["kind","a","b","sign"] ["kind","a","b"] (ak og):=⟨rfl,rfl,rfl,by decide +kernel,rfl,by decide +kernel,by decide +kernel⟩
noncomputable abbrev ke:Stmt:=top 54
theorem uN:ay ["x","y"] ["x","y"] (ak ke):=⟨rfl,rfl,rfl,by decide +kernel,rfl,by decide +kernel,by decide +kernel⟩
noncomputable abbrev uO:Stmt:=top 55
theorem xM:ay ["kind","a","b","sign"] ["kind","a","b"] (ak uO):=⟨rfl,rfl,rfl,by decide +kernel,rfl,by decide +kernel,by decide +kernel⟩
noncomputable abbrev sr:Stmt:=top 56
theorem jW:ay ["x","y","places","longer","shifted","size","more"] ["x","y","places"] (ak sr):=⟨rfl,rfl,rfl,by decide +kernel,rfl,by decide +kernel,by decide +kernel⟩
noncomputable abbrev DD:Stmt:=top 57
theorem KC:ay ["kind","bits"] ["kind","bits"] (ak DD):=⟨rfl,rfl,rfl,by decide +kernel,rfl,by decide +kernel,by decide +kernel⟩
noncomputable abbrev xN:Stmt:=top 58
theorem Gd:ay ["kind","a","b"] ["kind","a","b"] (ak xN):=⟨rfl,rfl,rfl,by decide +kernel,rfl,by decide +kernel,by decide +kernel⟩
noncomputable abbrev uP:Stmt:=top 59
theorem DE:ay ["kind","a","b"] ["kind","a","b"] (ak uP):=⟨rfl,rfl,rfl,by decide +kernel,rfl,by decide +kernel,by decide +kernel⟩
noncomputable abbrev eZ:Stmt:=top 60
theorem ir:ay ["kind","a","b","c","product"] ["kind","a","b","c"] (ak eZ):=⟨rfl,rfl,rfl,by decide +kernel,rfl,by decide +kernel,by decide +kernel⟩
structure cg where
 CF:Addr
 CC:Addr
 CT:Addr
 IE:Addr
 DF:Addr
 Ay:Addr
 IF:Addr
 Rh:Addr
 IG:Addr
 MO:Addr
 rD:Addr
structure Ty (K:PySem.W.Frag) (mg:Str→Option Value) (Z:cg):Prop extends Tx K mg Z.CF where
 jX:cZ mg "DOUBLE" 8
 dG:cZ mg "SUM_arithmetic" 0
 xO:cZ mg "LESS" 1
 nM:cZ mg "PRODUCT" 2
 pV:cZ mg "LESSER" 3
 jm:cZ mg "QUOTIENT" 5
 eI:cZ mg "FURTHEST_POWER" 4096
 gW:cZ mg "LAST_COLUMN" 15
 fo:cZ mg "GREATEST_ROWS" 2048
 tR:cZ mg "ALIKE" 0
 wt:cZ mg "BELOW" 1
 iu:cZ mg "UNORDERED" 3
 dJ:cZ mg "FINEST_POWER" (-1074)
 fX:cZ mg "CLASS_NO_NUMBER" 0
 gz:cZ mg "CLASS_INFINITE" 1
 kE:cZ mg "CLASS_ZERO" 2
 fc:cZ mg "CLASS_BELOW_ZERO" 3
 kF:cZ mg "CLASS_TINY" 4
 gX:cZ mg "CLASS_WHOLE" 5
 me:cZ mg "CLASS_ODD" 6
 g0:cZ mg "CLASSES_worth" 7
 jY:cZ mg "WORD_BITS" 64
 dB:cZ mg "DONE" 0
 bb:cZ mg "WRONG_ARGUMENT" (-2)
 eQ:cZ mg "NOT_THERE" (-3)
 fG:cZ mg "UNFIT_KINDS" (-4)
 mf:cZ mg "NONE_LEFT" (-5)
 kG:cZ mg "MOST_PARTS" 15
 mh:cZ mg "NO_COLUMN" 4294967295
 wu:cZ mg "BEGIN" 0
 B8:cZ mg "PUT" 1
 EN:cZ mg "GET" 2
 Az:cZ mg "CAST" 3
 wA:cZ mg "WHOLE" 4
 AA:cZ mg "REST" 5
 wB:cZ mg "SPLIT" 6
 AB:cZ mg "JOIN" 7
 KD:cZ mg "DO" 8
 AD:cZ mg "MORE" 9
 qL:cZ mg "COMPARE" 10
 g6:cZ mg "CLASSES_table" 11
 mi:cZ mg "SUM_table" 12
 AE:cZ mg "ENDS" 13
 tS:cZ mg "BLANK" 14
 pW:cZ mg "CHOOSE" 15
 xP:cZ mg "KEEP" 16
 xQ:cZ mg "PICK" 17
 mj:Al K mg "ARGUMENTS" (tI [1,2,3,4,4,4,3,3,4,4,4,1,1,1,2,4,1,0,0])
 EO:mg "any"=none
 B9:mg "sum"=none
 oh:mg "range"=none
 jZ:mg "enumerate"=none
 DG:GP K Z.CC
 Ca:fL K Z.CC "kind"
 DH:fL K Z.CC "numbers"
 ud:GP K Z.CT
 AF:fL K Z.CT "rows"
 nN:fL K Z.CT "columns"
noncomputable abbrev pX (n:Int) (H:Hp) (Q:VK):Prop:=∀ H',aB H H'→Q (.int n) H'
theorem Bk.le {k:Nat} (h:Bk k):6≤k:=by rcases h with rfl | rfl | rfl <;> decide
section
variable {P:Program} {w:World} {K:PySem.W.Frag} {mg:Str→Option Value} {base:Heap} {f:Addr} {fd:FuncData} {Z:cg}
noncomputable def oj (_:cg) (_:PySem.W.Frag):Sp:=fun vs H Q _=>∃ k b:Nat,vs=[.int k,.int b]∧Bk k∧Q (.bl (lV k b)) H
theorem DI (T:Ty K mg Z)  (D:aX K mg "is_tiny" uM ["kind","bits"] f fd):ae P w K mg base 1 "is_tiny" ["kind","bits"] (oj Z K):=by
 refine ae.of D DB (fun vs H Q E h=>?_) (fun bJ A outer s H vs Q E hr h=>?_)
 ·obtain ⟨k,b,rfl,_⟩:=h;rfl
 ·obtain ⟨k,b,rfl,hk,q⟩:=h;refine ⟨_,(aj (ao (kT vj vj ar (aT hY (pv 1) (bo T.fV (pv 0))) (aT d4 ar (aT cP (bo T.iM (pv 0)) ar))))),?_⟩;have hd:=dj hk;have ed:(((Rd18.digits k:Nat):Int) - 1).toNat=Rd18.digits k - 1:=by omega
  have cs:Dk 1 ((Rd18.digits k:Nat) - 1:Int):=iP (by omega) (by omega);simp_arith [cG hk,ip hk,jf,ph,ed,cD,Int.one_mul,Int.ofNat_lt,↓eV (cG hk),↓eV (ip hk)];unfold lV at q;have e0:((0:Int) < (aq k b:Int))=(0 < aq k b):=by apply propext;omega
  simp only [e0,cs];by_cases h0:0 < aq k b
  ·simpa [h0] using q
  ·simpa [h0] using q
noncomputable def oT (_:cg) (_:PySem.W.Frag):Sp:=fun vs H Q _=>∃ i:Int,vs=[.int i]∧Q (.bl (decide (0≤i∧i≤5))) H
theorem vK (T:Ty K mg Z)  (D:aX K mg "is_operation" k0 ["op"] f fd):ae P w K mg base 1 "is_operation" ["op"] (oT Z K):=by
 refine ae.of D vJ (fun vs H Q E h=>?_) (fun bJ A outer s H vs Q E hr h=>?_)
 ·obtain ⟨i,rfl,_⟩:=h;rfl
 ·obtain ⟨i,rfl,q⟩:=h;refine ⟨_,(aj (ao (kT gK gK (aM T.dG) (pv 0) (aM T.jm)))),?_⟩;simp_arith [];by_cases h0:0≤i
  ·simpa [h0] using q
  ·simpa [h0] using q
noncomputable def AG (o:Nat) (x y:Int):Int:=if o=0 then x+y else if o=1 then x - y else if o=2 then x*y else if o=3 then min x y else max x y
noncomputable def mK (_:cg) (_:PySem.W.Frag):Sp:=fun vs H Q _=>∃ (o:Nat) (x y:Int),vs=[.int o,.int x,.int y]∧-(2 ^ 64) < x∧x < 2 ^ 64∧Q (.int (AG o x y)) H
theorem yY (T:Ty K mg Z)  (D:aX K mg "done_whole" n9 ["op","a","b"] f fd):ae P w K mg base 1 "done_whole" ["op","a","b"] (mK Z K):=by
 refine ae.of D yW (fun vs H Q E h=>?_) (fun bJ A outer s H vs Q E hr h=>?_)
 ·obtain ⟨o,x,y,rfl,_⟩:=h;rfl
 ·obtain ⟨o,x,y,rfl,h1,h2,q⟩:=h;refine ⟨_,(ai (aR (aG bD (pv 0) (aM T.dG) (aJ _)) (aj (ao (aT eh (pv 1) (pv 2)))) aw)
   (ai (aR (aG bD (pv 0) (aM T.xO) (aJ _)) (aj (ao (aT cP (pv 1) (pv 2)))) aw)
   (ai (aR (aG bD (pv 0) (aM T.nM) (aJ _)) (aj (ao (aT ui (pv 1) (pv 2)))) aw)
   (aj (ao (br (aG bD (pv 0) (aM T.pV) (aJ _)) (bA (uj rfl) (by rfl) T.xC Am (aa (pv 1) (aa (pv 2) ag))) (bA (qG rfl) (by rfl) T.vx xt (aa (pv 1) (aa (pv 2) ag))))))))),?_⟩
  have cm:z5 x y:=.inl ⟨h1,h2⟩;simp_arith [cm];unfold AG at q;have e0:((o:Int)=0)=(o=0):=by apply propext;omega
  have e1:((o:Int)=1)=(o=1):=by apply propext;omega
  have e2:((o:Int)=2)=(o=2):=by apply propext;omega
  have e3:((o:Int)=3)=(o=3):=by apply propext;omega
  have em:(if y < x then y else x)=min x y:=by omega
  have ex:(if y > x then y else x)=max x y:=by omega
  simp only [e0,e1,e2,e3,em,ex];by_cases h0:o=0
  ·simpa [h0] using q
  ·by_cases h1:o=1
   ·simpa [h1] using q
   ·by_cases h2:o=2
    ·simpa [h2] using q
    ·by_cases h3:o=3
     ·simpa [h3] using q
     ·simpa [h0,h1,h2,h3] using q
noncomputable def iw (CF:Addr) (H:Hp) (x:Addr) (neg:Bool) (m:Nat) (e:Int):Prop:=∃ dx,H x=some (.ins CF dx (fF (sg neg) m e))
theorem iw.of {CF:Addr} {H H':Hp} {x:Addr} {neg:Bool} {m:Nat} {e:Int} (h:iw CF H x neg m e) (s:aB H H'):iw CF H' x neg m e:=by
 obtain ⟨dx,e⟩:=h;exact ⟨dx,s _ _ e⟩
noncomputable def iQ (Z:cg) (_:PySem.W.Frag):Sp:=fun vs H Q _=>∃ (x:Addr) (u:Int) (neg:Bool) (m:Nat) (e:Int),vs=[.ref x,.int u]∧iw Z.CF H x neg m e∧u≤e∧e - u≤60000∧bq m≤20000∧Q (.int (Rd18.at_ neg m e u)) H
theorem xR (T:Ty K mg Z)  (D:aX K mg "signed_size" mJ ["x","power"] f fd):ae P w K mg base 1 "signed_size" ["x","power"] (iQ Z K):=by
 refine ae.of D pU (fun vs H Q E h=>?_) (fun bJ A outer s H vs Q E hr h=>?_)
 ·obtain ⟨x,u,neg,m,e,rfl,_⟩:=h;rfl
 ·obtain ⟨x,u,neg,m,e,rfl,⟨dx,hx⟩,h1,h2,h3,q⟩:=h;refine ⟨_,(ai (aO (i:=2) pU.nd rfl (by first | exact Or.inl rfl | exact Or.inr rfl) (aT d4 (aE (pv 0) rfl) (aT cP (aE (pv 0) rfl) (pv 1))))
   (aj (ao (br (aG bD (aE (pv 0) rfl) ar (aJ _)) (pD kS (pv 2)) (pv 2))))),?_⟩
  simp_arith [hx,cw,cx,bW,T.i8,T.uG,T.uH,T.uI,↓cy hx T.i8 T.uG (cw _ _ _),↓cy hx T.i8 T.uH (cx _ _ _),↓cy hx T.i8 T.uI (bW _ _ _)];have cs:Dk (m:Int) (e - u):=⟨by omega,by rw [iq];omega⟩;refine ⟨cs,?_⟩;unfold Rd18.at_ at q;rw [← cD] at q;cases neg
  ·simpa [sg] using q
  ·simpa [sg] using q
noncomputable def kH (Z:cg) (_:PySem.W.Frag):Sp:=fun vs H Q _=>∃ (x y:Addr) (a:Bool) (m:Nat) (e:Int) (b:Bool) (n:Nat) (f:Int),vs=[.ref x,.ref y]∧iw Z.CF H x a m e∧iw Z.CF H y b n f ∧
 (bq m≤20000∧-10000≤e∧e≤10000)∧(bq n≤20000∧-10000≤f∧f≤10000)∧∀ r H',Dy Z.CF H H' r (fsum a m e b n f).1 (fsum a m e b n f).2.1 (fsum a m e b n f).2.2→Q (.ref r) H'
theorem Ge (a b:Bool):Builtin.bitAnd (sg a) (sg b)=sg (a&&b):=by cases a <;> cases b <;> decide
theorem qM (a b:Bool):Builtin.bitXor (sg a) (sg b)=sg (a != b):=by cases a <;> cases b <;> decide
theorem AH (T:Ty K mg Z) (ek:ae P w K mg base 1 "signed_size" ["x","power"] (iQ Z K)) (bG:lO P w K mg base 1 "Finite" Z.CF ["sign","size","power"]) (D:aX K mg "exact_sum" pT ["x","y"] f fd):ae P w K mg base 3 "exact_sum" ["x","y"] (kH Z K):=by
 refine ae.of D oe (fun vs H Q E h=>?_) (fun bJ A outer s H vs Q E hr h=>?_)
 ·obtain ⟨x,y,a,m,e,b,n,f,rfl,_⟩:=h;rfl
 ·obtain ⟨x,y,a,m,e,b,n,g,rfl,⟨dx,hx⟩,⟨dy,hy⟩,Kx,Bl,q⟩:=h;refine ⟨_,(ai (aO (i:=2) oe.nd rfl (by first | exact Or.inl rfl | exact Or.inr rfl) (bA (uj rfl) (by rfl) T.xC Am (aa (aE (pv 0) rfl) (aa (aE (pv 1) rfl) ag))))
   (ai (aO (i:=3) oe.nd rfl (by first | exact Or.inl rfl | exact Or.inr rfl) (aT eh (ah ek (hr.mono (by decide)) (aa (pv 0) (aa (pv 2) ag))) (ah ek (hr.mono (by decide)) (aa (pv 1) (aa (pv 2) ag)))))
   (ai (aR (aG bD (pv 3) ar (aJ _)) (aj (ao (dQ bG (hr.mono (by decide)) (aa (aT L0 (aE (pv 0) rfl) (aE (pv 1) rfl)) (aa ar (aa (pv 2) ag)))))) aw)
   (aj (ao (dQ bG (hr.mono (by decide)) (aa (br (aG vj (pv 3) ar (aJ _)) ar ar) (aa (bA xa (by rfl) T.zG Dl (aa (pv 3) ag)) (aa (pv 2) ag))))))))),?_⟩
  simp_arith [hx,hy,cw,cx,bW,T.i8,T.uG,T.uH,T.uI,yU,List.zip_cons_cons,List.zip_nil_left,iQ,↓cy hx T.i8 T.uG (cw _ _ _),↓cy hx T.i8 T.uH (cx _ _ _),↓cy hx T.i8 T.uI (bW _ _ _),↓cy hy T.i8 T.uG (cw _ _ _),↓cy hy T.i8 T.uH (cx _ _ _),↓cy hy T.i8 T.uI (bW _ _ _)];have em:(if g < e then g else e)=min e g:=by omega
  simp only [em];refine ⟨a,m,e,⟨dx,hx⟩,by omega,by omega,Kx.1,b,n,g,⟨dy,hy⟩,by omega,by omega,Bl.1,?_⟩;have ef:fsum a m e b n g=if Rd18.at_ a m e (min e g)+Rd18.at_ b n g (min e g)=0 then (a&&b,0,min e g) else (decide (Rd18.at_ a m e (min e g)+Rd18.at_ b n g (min e g) < 0),(Rd18.at_ a m e (min e g)+Rd18.at_ b n g (min e g)).natAbs,min e g):=rfl
  rw [ef] at q;generalize Rd18.at_ a m e (min e g)+Rd18.at_ b n g (min e g)=z at *
  by_cases hz:z=0
  ·subst hz;simp only [if_true,if_false] at q ⊢;simp only [Ge];exact q
  ·simp only [hz,if_false] at q ⊢;have e2:(if z < 0 then -z else z)=(z.natAbs:Int):=by split <;> omega
   rw [e2];by_cases hn:z < 0
   ·have e3:sg (decide (z < 0))=1:=by simp [sg,hn]
    simp only [Dy,fF,e3] at q;simp only [hn,if_true];exact q
   ·have e3:sg (decide (z < 0))=0:=by simp [sg,hn]
    simp only [Dy,fF,e3] at q;simp only [hn,if_false];exact q
end
section
variable {P:Program} {w:World} {K:PySem.W.Frag} {mg:Str→Option Value} {base:Heap} {f:Addr} {fd:FuncData} {Z:cg} {H:Hp} {Q:VK} {E:XK} {CF:Addr}
theorem gh {k b:Nat} (hk:Bk k) (h:∀ x H',aB H H'→iw CF H' x (a9 k b) (aS k (aq k b)) (bP k (aq k b))→Q (.ref x) H'):nJ CF [.int k,.int b] H Q E :=
 ⟨k,b,rfl,hk,fun x H' n=>h x H' n.1 n.2.2⟩
theorem Cb {k w m:Nat} {neg:Bool} {e:Int} {x:Addr} (hk:Bk k) (hw:w≤3) (hx:iw CF H x neg m e) (hb:Ll m e) (q:Q (.int (Rd18.rounded k w neg m e)) H):fW CF [.int k,.ref x,.int w] H Q E:=by
 obtain ⟨dx,hx⟩:=hx;exact ⟨k,w,m,neg,e,x,dx,rfl,hk,hw,hx,hb,q⟩
theorem eJ {k m:Nat} {neg:Bool} {e:Int} {x:Addr} (hk:Bk k) (hx:iw CF H x neg m e) (hb:Ll m e) (q:Q (.int (Rd18.rounded k 0 neg m e)) H):fW CF [.int k,.ref x,.int 0] H Q E :=
 Cb (w:=0) hk (by decide) hx hb q
theorem qX {k b:Nat} (hk:Bk k):bq (aS k (aq k b))≤53∧-1074≤bP k (aq k b)∧bP k (aq k b)≤1100:=⟨zf hk,GW hk (wd k b)⟩
theorem ER {x y:Addr} {a b:Bool} {m n:Nat} {e f:Int} (hx:iw Z.CF H x a m e) (hy:iw Z.CF H y b n f) (h1:bq m≤20000∧-10000≤e∧e≤10000) (h2:bq n≤20000∧-10000≤f∧f≤10000)
  (h:∀ r H',aB H H'→iw Z.CF H' r (fsum a m e b n f).1 (fsum a m e b n f).2.1 (fsum a m e b n f).2.2→Q (.ref r) H'):kH Z K [.ref x,.ref y] H Q E :=
 ⟨x,y,a,m,e,b,n,f,rfl,hx,hy,h1,h2,fun r H' n=>h r H' n.1 n.2.2⟩
noncomputable abbrev tT (_:cg) (_:PySem.W.Frag):Sp:=fun vs H Q _=>∃ k a b:Nat,vs=[.int k,.int a,.int b]∧Bk k∧Vb k a∧Vb k b∧pX (Rd18.near k (Rd18.plus (Rd18.worth k a) (Rd18.worth k b))) H Q
theorem IH (T:Ty K mg Z) (az:ae P w K mg base 1 "is_infinite" ["kind","bits"] cb) (aF:ae P w K mg base 3 "bits_of_finite" ["kind","number","way"] (fW Z.CF)) (aD:ae P w K mg base 1 "is_no_number" ["kind","bits"] cW) (iy:ae P w K mg base 3 "exact_sum" ["x","y"] (kH Z K)) (aA:ae P w K mg base 3 "finite_of_bits" ["kind","bits"] (nJ Z.CF)) (D:aX K mg "added" Ax ["kind","a","b"] f fd):ae P w K mg base 4 "added" ["kind","a","b"] (tT Z K):=by
 refine ae.of D ID (fun vs H Q E h=>?_) (fun bJ A outer s H vs Q E hr h=>?_)
 ·obtain ⟨k,a,b,rfl,_⟩:=h;rfl
 ·obtain ⟨k,a,b,rfl,hk,ha,hb,q⟩:=h;refine ⟨_,(ai (aR (PW.pt (ku (aN (ah aD (hr.mono (by decide)) (aa (pv 0) (aa (pv 1) ag)))) (hW (aN (ah aD (hr.mono (by decide)) (aa (pv 0) (aa (pv 2) ag))))))) (aj (ao (bo T.bE (pv 0)))) aw)
   (ai (aR (aN (ah az (hr.mono (by decide)) (aa (pv 0) (aa (pv 1) ag)))) (aj (ao (br (PW.pt (fK (aN (ah az (hr.mono (by decide)) (aa (pv 0) (aa (pv 2) ag)))) (gx (aG lY (pv 1) (pv 2) (aJ _))))) (bo T.bE (pv 0)) (pv 1)))) aw)
   (ai (aR (aN (ah az (hr.mono (by decide)) (aa (pv 0) (aa (pv 2) ag)))) (aj (ao (pv 2))) aw)
   (aj (ao (ah aF (hr.mono (by decide)) (aa (pv 0) (aa (ah iy (hr.mono (by decide)) (aa (ah aA (hr.mono (by decide)) (aa (pv 0) (aa (pv 1) ag))) (aa (ah aA (hr.mono (by decide)) (aa (pv 0) (aa (pv 2) ag))) ag))) (aa (aM T.cT) ag))))))))),?_⟩
  rw [GX hk ha hb] at q;simp_arith [cW,cb,hk,gd hk,↓eV (gd hk)];by_cases h1:Rd18.infinity k < aq k a
  ·simp only [h1,true_or,if_true] at q ⊢;exact q H (aB.refl H)
  by_cases h2:Rd18.infinity k < aq k b
  ·simp only [h1,h2,or_true,if_true,if_false] at q ⊢;exact q H (aB.refl H)
  by_cases h3:aq k a=Rd18.infinity k
  ·by_cases h4:aq k b=Rd18.infinity k
   ·by_cases h5:a=b
    ·subst h5;simp only [h1,h2,h3,h4,or_self,or_false,false_or,Nat.lt_irrefl,if_true,if_false,ne_eq,not_true_eq_false,and_false,decide_true,Bool.not_true,Bool.false_eq_true] at q ⊢;exact q H (aB.refl H)
    ·simp only [h1,h2,h3,h4,h5,or_self,or_false,false_or,Nat.lt_irrefl,if_true,if_false,ne_eq,not_false_eq_true,and_self,decide_false,Bool.not_false] at q ⊢;exact q H (aB.refl H)
   ·simp only [h1,h2,h3,h4,or_self,or_false,false_or,Nat.lt_irrefl,if_true,if_false,false_and] at q ⊢;exact q H (aB.refl H)
  by_cases h4:aq k b=Rd18.infinity k
  ·simp only [h1,h2,h3,h4,or_self,or_false,false_or,Nat.lt_irrefl,if_true,if_false,false_and] at q ⊢;exact q H (aB.refl H)
  simp only [h1,h2,h3,h4,or_self,if_false] at q ⊢;refine gh hk fun x H1 s1 hx=>gh hk fun y H2 s2 hy=>?_;have b1:=qX (b:=a) hk;have b2:=qX (b:=b) hk;refine ER (hx.of s2) hy (by omega) (by omega) fun r H3 s3 hr=>eJ hk hr ?_ (q _ ((s1.trans s2).trans s3));exact Ee (by omega) (by omega) (by omega) (by omega) (by omega) (by omega)
noncomputable abbrev mL (_:cg) (_:PySem.W.Frag):Sp:=fun vs H Q _=>∃ k a b:Nat,vs=[.int k,.int a,.int b]∧Bk k∧Vb k a∧Vb k b∧pX (Rd18.near k (Rd18.plus (Rd18.worth k a) (Rd18.minus (Rd18.worth k b)))) H Q
theorem yZ (T:Ty K mg Z) (kI:ae P w K mg base 4 "added" ["kind","a","b"] (tT Z K)) (D:aX K mg "subtracted" oa ["kind","a","b"] f fd):ae P w K mg base 5 "subtracted" ["kind","a","b"] (mL Z K):=by
 refine ae.of D yX (fun vs H Q E h=>?_) (fun bJ A outer s H vs Q E hr h=>?_)
 ·obtain ⟨k,a,b,rfl,_⟩:=h;rfl
 ·obtain ⟨k,a,b,rfl,hk,ha,hb,q⟩:=h;refine ⟨_,(aj (ao (ah kI (hr.mono (by decide)) (aa (pv 0) (aa (pv 1) (aa (aT hY (aT eh (pv 2) (bo T.fV (pv 0))) (aT ui ar (bo T.fV (pv 0)))) ag)))))),?_⟩;have hm:z5 2 (bp k:Int):=.inl ⟨by decide,by decide⟩;have hp:=jf k;have h2:(0:Int) < 2*(bp k:Int):=by omega
  have ef:((b:Int)+(bp k:Int)) % (2*(bp k:Int))=(pq k b:Int):=by
   unfold pq;rw [Int.natCast_emod,Int.natCast_add,Int.natCast_mul];rfl
  simp_arith [cG hk,hm,h2,ef,↓eV (cG hk)];rw [← rQ hk hb] at q;exact ⟨k,a,pq k b,rfl,hk,ha,JF k b,q⟩
noncomputable abbrev jn (Z:cg) (_:PySem.W.Frag):Sp:=fun vs H Q _=>∃ (x y:Addr) (a:Bool) (m:Nat) (e:Int) (b:Bool) (n:Nat) (f:Int),vs=[.ref x,.ref y]∧iw Z.CF H x a m e∧iw Z.CF H y b n f∧bq m≤64 ∧
 ∀ r H',aB H H'→iw Z.CF H' r (a != b) (m*n) (e+f)→Q (.ref r) H'
theorem uQ (T:Ty K mg Z) (bG:lO P w K mg base 1 "Finite" Z.CF ["sign","size","power"]) (D:aX K mg "exact_product" ke ["x","y"] f fd):ae P w K mg base 3 "exact_product" ["x","y"] (jn Z K):=by
 refine ae.of D uN (fun vs H Q E h=>?_) (fun bJ A outer s H vs Q E hr h=>?_)
 ·obtain ⟨x,y,a,m,e,b,n,f,rfl,_⟩:=h;rfl
 ·obtain ⟨x,y,a,m,e,b,n,g,rfl,⟨dx,hx⟩,⟨dy,hy⟩,Kx,q⟩:=h;refine ⟨_,(aj (ao (dQ bG (hr.mono (by decide)) (aa (aT z7 (aE (pv 0) rfl) (aE (pv 1) rfl)) (aa (aT ui (aE (pv 0) rfl) (aE (pv 1) rfl)) (aa (aT eh (aE (pv 0) rfl) (aE (pv 1) rfl)) ag)))))),?_⟩;have Ri:m < 2 ^ 64:=cz Kx;have cm:z5 (m:Int) (n:Int):=.inl ⟨by omega,by omega⟩;simp_arith [hx,hy,cw,cx,bW,T.i8,T.uG,T.uH,T.uI,yU,List.zip_cons_cons,List.zip_nil_left,qM,cm,↓cy hx T.i8 T.uG (cw _ _ _),↓cy hx T.i8 T.uH (cx _ _ _),↓cy hx T.i8 T.uI (bW _ _ _),↓cy hy T.i8 T.uG (cw _ _ _),↓cy hy T.i8 T.uH (cx _ _ _),↓cy hy T.i8 T.uI (bW _ _ _)];intro r H' n';refine q r H' n'.1 ?_;obtain ⟨dr,hr⟩:=n'.2.2;exact ⟨dr,by rw [hr];unfold fF;rw [Int.natCast_mul]⟩
noncomputable abbrev mM (_:cg) (_:PySem.W.Frag):Sp:=fun vs H Q _=>∃ k a b:Nat,vs=[.int k,.int a,.int b]∧Bk k∧¬ Rd18.infinity k < aq k a∧¬ Rd18.infinity k < aq k b∧pX (Rd18.near k (Rd18.times (Rd18.worth k a) (Rd18.worth k b))) H Q
theorem y0 (T:Ty K mg Z) (aF:ae P w K mg base 3 "bits_of_finite" ["kind","number","way"] (fW Z.CF)) (bt:ae P w K mg base 1 "sign_of" ["kind","bits"] fM) (az:ae P w K mg base 1 "is_infinite" ["kind","bits"] cb) (bh:ae P w K mg base 1 "with_sign" ["kind","sign","bits"] c8) (dX:ae P w K mg base 3 "exact_product" ["x","y"] (jn Z K)) (ck:ae P w K mg base 1 "is_zero" ["kind","bits"] gf) (aA:ae P w K mg base 3 "finite_of_bits" ["kind","bits"] (nJ Z.CF)) (D:aX K mg "multiplied" og ["kind","a","b"] f fd):ae P w K mg base 4 "multiplied" ["kind","a","b"] (mM Z K):=by
 refine ae.of D rC (fun vs H Q E h=>?_) (fun bJ A outer s H vs Q E hr h=>?_)
 ·obtain ⟨k,a,b,rfl,_⟩:=h;rfl
 ·obtain ⟨k,a,b,rfl,hk,na,nb,q⟩:=h;refine ⟨_,(ai (aO (i:=3) rC.nd rfl (by first | exact Or.inl rfl | exact Or.inr rfl) (aT z7 (ah bt (hr.mono (by decide)) (aa (pv 0) (aa (pv 1) ag))) (ah bt (hr.mono (by decide)) (aa (pv 0) (aa (pv 2) ag)))))
   (ai (aR (PW.pt (ku (aN (ah az (hr.mono (by decide)) (aa (pv 0) (aa (pv 1) ag)))) (hW (aN (ah az (hr.mono (by decide)) (aa (pv 0) (aa (pv 2) ag))))))) (ai (aR (PW.pt (ku (aN (ah ck (hr.mono (by decide)) (aa (pv 0) (aa (pv 1) ag)))) (hW (aN (ah ck (hr.mono (by decide)) (aa (pv 0) (aa (pv 2) ag))))))) (aj (ao (bo T.bE (pv 0)))) aw)
   (aj (ao (ah bh (hr.mono (by decide)) (aa (pv 0) (aa (pv 3) (aa (bo T.cj (pv 0)) ag))))))) aw)
   (aj (ao (ah aF (hr.mono (by decide)) (aa (pv 0) (aa (ah dX (hr.mono (by decide)) (aa (ah aA (hr.mono (by decide)) (aa (pv 0) (aa (pv 1) ag))) (aa (ah aA (hr.mono (by decide)) (aa (pv 0) (aa (pv 2) ag))) ag))) (aa (aM T.cT) ag)))))))),?_⟩
  rw [GY hk na nb] at q;simp_arith [fM,cb,gf,hk,gd hk,eG hk,qM,↓eV (gd hk),↓eV (eG hk)];have ws:∀ (r:Nat) (neg:Bool),Q (.int (Rd18.sign k neg r)) H→c8 [.int k,.int (sg neg),.int r] H Q E0:=fun r neg h=>⟨k,r,neg,rfl,hk,h⟩;have Bj:¬ Rd18.infinity k=0:=by have:=tK hk;omega
  have KG:¬ 0=Rd18.infinity k:=fun e=>Bj e.symm;by_cases h1:aq k a=Rd18.infinity k
  ·by_cases h4:aq k b=0
   ·simp only [h1,h4,Bj,true_or,or_true,if_true,if_false] at q ⊢;exact q H (aB.refl H)
   ·simp only [h1,h4,Bj,true_or,or_self,if_true,if_false] at q ⊢;exact ws _ _ (q H (aB.refl H))
  ·by_cases h2:aq k b=Rd18.infinity k
   ·by_cases h3:aq k a=0
    ·simp only [h1,h2,h3,KG,true_or,or_true,if_true,if_false] at q ⊢;exact q H (aB.refl H)
    ·simp only [h1,h2,h3,Bj,true_or,or_true,or_self,if_true,if_false] at q ⊢;exact ws _ _ (q H (aB.refl H))
   ·simp only [h1,h2,or_self,if_false] at q ⊢;refine gh hk fun x H1 s1 hx=>gh hk fun y H2 s2 hy=>?_;have b1:=qX (b:=a) hk;have b2:=qX (b:=b) hk;refine ⟨x,y,_,_,_,_,_,_,rfl,hx.of s2,hy,by omega,fun r H3 s3 hr=>eJ hk hr ?_ (q _ ((s1.trans s2).trans s3))⟩;have:=wH (aS k (aq k a)) (aS k (aq k b));exact ⟨by omega,by omega,by omega⟩
end
section
variable {P:Program} {w:World} {K:PySem.W.Frag} {mg:Str→Option Value} {base:Heap} {f:Addr} {fd:FuncData} {Z:cg} {H:Hp} {Q:VK} {E:XK} {CF:Addr}
theorem Cc {k r:Nat} {neg:Bool} (hk:Bk k) (h:Q (.int (Rd18.sign k neg r)) H):c8 [.int k,.int (sg neg),.int r] H Q E:=⟨k,r,neg,rfl,hk,h⟩
theorem DJ {k:Nat} {neg:Bool} (hk:Bk k) (h:Q (.int (Rd18.sign k neg 0)) H):c8 [.int k,.int (sg neg),.int 0] H Q E:=⟨k,0,neg,rfl,hk,h⟩
theorem MP {k r:Nat} (hk:Bk k) (h:Q (.int (Rd18.sign k true r)) H):c8 [.int k,.int 1,.int r] H Q E:=⟨k,r,true,rfl,hk,h⟩
noncomputable abbrev vy (Z:cg) (_:PySem.W.Frag):Sp:=fun vs H Q _=>∃ (x y:Addr) (a:Bool) (m:Nat) (e:Int) (b:Bool) (n:Nat) (f:Int) (p t:Nat),vs=[.ref x,.ref y,.int p]∧iw Z.CF H x a m e∧iw Z.CF H y b n f∧0 < n∧bq m≤64∧bq n≤64∧p≤64 ∧
 (t:Int)=(p:Int)+2+bq n - bq m∧∀ r H',aB H H'→iw Z.CF H' r (a != b) (cY (m*2 ^ t) n) (e - f - t - 1)→Q (.ref r) H'
theorem log2_lt_of {n:Nat} (h:n < 2 ^ 64) (h0:0 < n):n.log2 < 9000:=Nat.lt_of_lt_of_le ((Nat.log2_lt (by omega)).mpr h) (by decide)
theorem Cd (T:Ty K mg Z) (bG:lO P w K mg base 1 "Finite" Z.CF ["sign","size","power"]) (D:aX K mg "quotient" sr ["x","y","places"] f fd):ae P w K mg base 3 "quotient" ["x","y","places"] (vy Z K):=by
 refine ae.of D jW (fun vs H Q E h=>?_) (fun bJ A outer s H vs Q E hr h=>?_)
 ·obtain ⟨x,y,a,m,e,b,n,f,p,t,rfl,_⟩:=h;rfl
 ·obtain ⟨x,y,a,m,e,b,n,g,p,t,rfl,⟨dx,hx⟩,⟨dy,hy⟩,hn,Kx,Bl,hp,ht,q⟩:=h;refine ⟨_,(ai (aO (i:=3) jW.nd rfl (by first | exact Or.inl rfl | exact Or.inr rfl) (aT cP (aT eh (aT eh (pv 2) ar) (nE (aE (pv 1) rfl))) (nE (aE (pv 0) rfl))))
   (ai (aO (i:=4) jW.nd rfl (by first | exact Or.inl rfl | exact Or.inr rfl) (aT d4 (aE (pv 0) rfl) (pv 3)))
   (ai (aO (i:=5) jW.nd rfl (by first | exact Or.inl rfl | exact Or.inr rfl) (aT tF (pv 4) (aE (pv 1) rfl)))
   (ai (aO (i:=6) jW.nd rfl (by first | exact Or.inl rfl | exact Or.inr rfl) (br (aG bD (aT ui (pv 5) (aE (pv 1) rfl)) (pv 4) (aJ _)) ar ar))
   (aj (ao (dQ bG (hr.mono (by decide)) (aa (aT z7 (aE (pv 0) rfl) (aE (pv 1) rfl)) (aa (aT eh (aT ui ar (pv 5)) (pv 6)) (aa (aT cP (aT cP (aT cP (aE (pv 0) rfl) (aE (pv 1) rfl)) (pv 3)) ar) ag)))))))))),?_⟩
  have Ri:m < 2 ^ 64:=cz Kx;have Rj:n < 2 ^ 64:=cz Bl;have rE:=bL m;have cs:Dk (m:Int) (t:Int):=⟨by omega,by rw [iq];omega⟩;have cd:∀ z:Int,B3 z (n:Int):=fun z=>⟨by omega,log2_lt_of (by simpa using Rj) (by simpa using hn)⟩;have cm:∀ z:Int,z5 z (n:Int):=fun z=>.inr ⟨by omega,by omega⟩;have c2:∀ z:Int,z5 2 z:=fun z=>.inl ⟨by decide,by decide⟩;simp_arith [hx,hy,cw,cx,bW,T.i8,T.uG,T.uH,T.uI,yU,List.zip_cons_cons,List.zip_nil_left,qM,kZ,← ht,cs,cd,cm,c2,Int.toNat_natCast,pj,↓cy hx T.i8 T.uG (cw _ _ _),↓cy hx T.i8 T.uH (cx _ _ _),↓cy hx T.i8 T.uI (bW _ _ _),↓cy hy T.i8 T.uG (cw _ _ _),↓cy hy T.i8 T.uH (cx _ _ _),↓cy hy T.i8 T.uI (bW _ _ _)];have ed:((m*2 ^ t:Nat):Int) / (n:Int)=((m*2 ^ t / n:Nat):Int):=(Int.natCast_ediv _ _).symm;have XW:=Nat.div_add_mod (m*2 ^ t) n;have ec:(((m*2 ^ t / n:Nat):Int)*(n:Int)=((m*2 ^ t:Nat):Int))=(m*2 ^ t % n=0):=by
   rw [← Int.natCast_mul,Int.natCast_inj,Nat.mul_comm (m*2 ^ t / n)];apply propext;omega
  rw [ed];simp only [ec];by_cases hz:m*2 ^ t % n=0
  ·simp only [hz,if_true];intro r H' n';refine q r H' n'.1 ?_;obtain ⟨dr,hr⟩:=n'.2.2;refine ⟨dr,?_⟩;rw [hr];unfold cY;rw [if_pos hz,Nat.add_zero,Int.natCast_mul,Int.add_zero];rfl
  ·simp only [hz,if_false];intro r H' n';refine q r H' n'.1 ?_;obtain ⟨dr,hr⟩:=n'.2.2;refine ⟨dr,?_⟩;rw [hr];unfold cY;rw [if_neg hz,Int.natCast_add,Int.natCast_mul];rfl
noncomputable abbrev xS (_:cg) (_:PySem.W.Frag):Sp:=fun vs H Q _=>∃ k a b:Nat,vs=[.int k,.int a,.int b]∧Bk k∧¬ Rd18.infinity k < aq k a∧¬ Rd18.infinity k < aq k b∧pX (Rd18.near k (Rd18.over_ (Rd18.worth k a) (Rd18.worth k b))) H Q
theorem DK (T:Ty K mg Z) (az:ae P w K mg base 1 "is_infinite" ["kind","bits"] cb) (ck:ae P w K mg base 1 "is_zero" ["kind","bits"] gf) (aF:ae P w K mg base 3 "bits_of_finite" ["kind","number","way"] (fW Z.CF)) (bt:ae P w K mg base 1 "sign_of" ["kind","bits"] fM) (bh:ae P w K mg base 1 "with_sign" ["kind","sign","bits"] c8) (su:ae P w K mg base 3 "quotient" ["x","y","places"] (vy Z K)) (aA:ae P w K mg base 3 "finite_of_bits" ["kind","bits"] (nJ Z.CF)) (D:aX K mg "divided" uO ["kind","a","b"] f fd):ae P w K mg base 4 "divided" ["kind","a","b"] (xS Z K):=by
 refine ae.of D xM (fun vs H Q E h=>?_) (fun bJ A outer s H vs Q E hr h=>?_)
 ·obtain ⟨k,a,b,rfl,_⟩:=h;rfl
 ·obtain ⟨k,a,b,rfl,hk,na,nb,q⟩:=h;refine ⟨_,(ai (aO (i:=3) xM.nd rfl (by first | exact Or.inl rfl | exact Or.inr rfl) (aT z7 (ah bt (hr.mono (by decide)) (aa (pv 0) (aa (pv 1) ag))) (ah bt (hr.mono (by decide)) (aa (pv 0) (aa (pv 2) ag)))))
   (ai (aR (aN (ah az (hr.mono (by decide)) (aa (pv 0) (aa (pv 1) ag)))) (aj (ao (br (aN (ah az (hr.mono (by decide)) (aa (pv 0) (aa (pv 2) ag)))) (bo T.bE (pv 0)) (ah bh (hr.mono (by decide)) (aa (pv 0) (aa (pv 3) (aa (bo T.cj (pv 0)) ag))))))) aw)
   (ai (aR (aN (ah ck (hr.mono (by decide)) (aa (pv 0) (aa (pv 2) ag)))) (aj (ao (br (aN (ah ck (hr.mono (by decide)) (aa (pv 0) (aa (pv 1) ag)))) (bo T.bE (pv 0)) (ah bh (hr.mono (by decide)) (aa (pv 0) (aa (pv 3) (aa (bo T.cj (pv 0)) ag))))))) aw)
   (ai (aR (PW.pt (ku (aN (ah az (hr.mono (by decide)) (aa (pv 0) (aa (pv 2) ag)))) (hW (aN (ah ck (hr.mono (by decide)) (aa (pv 0) (aa (pv 1) ag))))))) (aj (ao (ah bh (hr.mono (by decide)) (aa (pv 0) (aa (pv 3) (aa ar ag)))))) aw)
   (aj (ao (ah aF (hr.mono (by decide)) (aa (pv 0) (aa (ah su (hr.mono (by decide)) (aa (ah aA (hr.mono (by decide)) (aa (pv 0) (aa (pv 1) ag))) (aa (ah aA (hr.mono (by decide)) (aa (pv 0) (aa (pv 2) ag))) (aa (bo T.iM (pv 0)) ag)))) (aa (aM T.cT) ag)))))))))),?_⟩
  have b1:=qX (b:=a) hk;have b2:=qX (b:=b) hk;have hd:=dj hk;have z1:=bK (qB (r:=aq k a) hk);have z2:=bL (aS k (aq k b));have z3:=bL (aS k (aq k a));obtain ⟨t,ht⟩:∃ t:Nat,(t:Int)=(Rd18.digits k:Int)+2+bq (aS k (aq k b)) - bq (aS k (aq k a)):=⟨((Rd18.digits k:Int)+2+bq (aS k (aq k b)) - bq (aS k (aq k a))).toNat,by omega⟩;rw [JH hk na nb ht] at q;have Bj:¬ Rd18.infinity k=0:=by have:=tK hk;omega
  have KG:¬ 0=Rd18.infinity k:=fun e=>Bj e.symm;simp_arith [fM,cb,gf,hk,gd hk,eG hk,ip hk,qM,↓eV (gd hk),↓eV (eG hk),↓eV (ip hk)];by_cases h1:aq k a=Rd18.infinity k
  ·by_cases h2:aq k b=Rd18.infinity k
   ·simp only [h1,h2,if_true] at q ⊢;exact q H (aB.refl H)
   ·simp only [h1,h2,if_true,if_false] at q ⊢;exact Cc hk (q H (aB.refl H))
  ·by_cases h4:aq k b=0
   ·by_cases h3:aq k a=0
    ·simp only [h1,h3,h4,KG,if_true,if_false] at q ⊢;exact q H (aB.refl H)
    ·simp only [h1,h3,h4,if_true,if_false] at q ⊢;exact Cc hk (q H (aB.refl H))
   ·by_cases h2:aq k b=Rd18.infinity k
    ·simp only [h1,h2,Bj,true_or,if_true,if_false] at q ⊢;exact DJ hk (q H (aB.refl H))
    ·by_cases h3:aq k a=0
     ·simp only [h1,h2,h3,h4,KG,or_true,if_true,if_false] at q ⊢;exact DJ hk (q H (aB.refl H))
     ·simp only [h1,h2,h3,h4,or_self,if_false] at q ⊢;refine gh hk fun x H1 s1 hx=>gh hk fun y H2 s2 hy=>?_;have hz:0 < aS k (aq k b):=Nat.pos_of_ne_zero fun e=>h4 (fA.mp e);refine ⟨x,y,_,_,_,_,_,_,Rd18.digits k,t,rfl,hx.of s2,hy,hz,by omega,by omega,by omega,ht,fun r H3 s3 hr=>eJ hk hr ?_ (q _ ((s1.trans s2).trans s3))⟩;have SK:bq (cY (aS k (aq k a)*2 ^ t) (aS k (aq k b)))≤1000:=by
       have e1:cY (aS k (aq k a)*2 ^ t) (aS k (aq k b))≤2*(aS k (aq k a)*2 ^ t)+1:=by
        unfold cY;have:=Nat.div_le_self (aS k (aq k a)*2 ^ t) (aS k (aq k b));split <;> omega
       have e2:=qA e1;have e3:=wI (2*(aS k (aq k a)*2 ^ t)) 1;have e4:=wH 2 (aS k (aq k a)*2 ^ t);have e5:=pk (aS k (aq k a)) t;have e6:bq 2=2:=by decide
       have e7:bq 1=1:=by decide
       omega
      exact ⟨by omega,by omega,by omega⟩
noncomputable def qN (_:cg) (_:PySem.W.Frag):Sp:=fun vs H Q _=>∃ k b:Nat,vs=[.int k,.int b]∧Bk k∧Q (.int (dD k b)) H
theorem KH (T:Ty K mg Z)  (D:aX K mg "rank" DD ["kind","bits"] f fd):ae P w K mg base 1 "rank" ["kind","bits"] (qN Z K):=by
 refine ae.of D KC (fun vs H Q E h=>?_) (fun bJ A outer s H vs Q E hr h=>?_)
 ·obtain ⟨k,b,rfl,_⟩:=h;rfl
 ·obtain ⟨k,b,rfl,hk,q⟩:=h;refine ⟨_,(aj (ao (br (aG Ew (pv 1) (bo T.fV (pv 0)) (aJ _)) (aT cP (aT cP (bo T.fV (pv 0)) ar) (pv 1)) (pv 1)))),?_⟩;simp_arith [cG hk,Int.ofNat_le,↓eV (cG hk)];unfold dD at q;by_cases h0:bp k≤b
  ·simpa [h0] using q
  ·simpa [h0] using q
noncomputable def uR (_:cg) (_:PySem.W.Frag):Sp:=fun vs H Q _=>∃ k a b:Nat,vs=[.int k,.int a,.int b]∧Bk k∧Q (.int ((if dD k a≤dD k b then a else b:Nat):Int)) H
theorem Gf (T:Ty K mg Z) (k5:ae P w K mg base 1 "rank" ["kind","bits"] (qN Z K)) (D:aX K mg "lesser" xN ["kind","a","b"] f fd):ae P w K mg base 2 "lesser" ["kind","a","b"] (uR Z K):=by
 refine ae.of D Gd (fun vs H Q E h=>?_) (fun bJ A outer s H vs Q E hr h=>?_)
 ·obtain ⟨k,a,b,rfl,_⟩:=h;rfl
 ·obtain ⟨k,a,b,rfl,hk,q⟩:=h;refine ⟨_,(aj (ao (br (aG gK (ah k5 (hr.mono (by decide)) (aa (pv 0) (aa (pv 1) ag))) (ah k5 (hr.mono (by decide)) (aa (pv 0) (aa (pv 2) ag))) (aJ _)) (pv 1) (pv 2)))),?_⟩;simp_arith [qN,hk];by_cases h0:dD k a≤dD k b
  ·simpa only [h0,if_true] using q
  ·simpa only [h0,if_false] using q
noncomputable def sv (_:cg) (_:PySem.W.Frag):Sp:=fun vs H Q _=>∃ k a b:Nat,vs=[.int k,.int a,.int b]∧Bk k∧Q (.int ((if dD k a≤dD k b then b else a:Nat):Int)) H
theorem DL (T:Ty K mg Z) (k5:ae P w K mg base 1 "rank" ["kind","bits"] (qN Z K)) (D:aX K mg "greater" uP ["kind","a","b"] f fd):ae P w K mg base 2 "greater" ["kind","a","b"] (sv Z K):=by
 refine ae.of D DE (fun vs H Q E h=>?_) (fun bJ A outer s H vs Q E hr h=>?_)
 ·obtain ⟨k,a,b,rfl,_⟩:=h;rfl
 ·obtain ⟨k,a,b,rfl,hk,q⟩:=h;refine ⟨_,(aj (ao (br (aG gK (ah k5 (hr.mono (by decide)) (aa (pv 0) (aa (pv 1) ag))) (ah k5 (hr.mono (by decide)) (aa (pv 0) (aa (pv 2) ag))) (aJ _)) (pv 2) (pv 1)))),?_⟩;simp_arith [qN,hk];by_cases h0:dD k a≤dD k b
  ·simpa only [h0,if_true] using q
  ·simpa only [h0,if_false] using q
noncomputable abbrev eK (_:cg) (_:PySem.W.Frag):Sp:=fun vs H Q _=>∃ k a b c:Nat,vs=[.int k,.int a,.int b,.int c]∧Bk k∧Vb k a∧Vb k b∧Vb k c∧pX (Rd18.near k (Rd18.plus (Rd18.times (Rd18.worth k a) (Rd18.worth k b)) (Rd18.worth k c))) H Q
theorem sx {k a b c:Nat} (hk:Bk k) (h:Rd18.infinity k < aq k a∨Rd18.infinity k < aq k b∨Rd18.infinity k < aq k c):Rd18.near k (Rd18.plus (Rd18.times (Rd18.worth k a) (Rd18.worth k b)) (Rd18.worth k c))=Rd18.plain k:=by
 have tr:∀ x,Rd18.times x .nan=.nan:=fun x=>by cases x <;> rfl
 rcases h with h | h | h
 ·rw [rm (b:=b) hk h,show Rd18.times .nan (Rd18.worth k b)=.nan from by cases Rd18.worth k b <;> rfl,n0,bS hk]
 ·rw [rm (b:=b) hk h,tr,n0,bS hk]
 ·rw [rm (b:=b) hk h,rS,bS hk]
theorem nO (T:Ty K mg Z) (az:ae P w K mg base 1 "is_infinite" ["kind","bits"] cb) (dX:ae P w K mg base 3 "exact_product" ["x","y"] (jn Z K)) (aF:ae P w K mg base 3 "bits_of_finite" ["kind","number","way"] (fW Z.CF)) (aD:ae P w K mg base 1 "is_no_number" ["kind","bits"] cW) (kI:ae P w K mg base 4 "added" ["kind","a","b"] (tT Z K)) (aA:ae P w K mg base 3 "finite_of_bits" ["kind","bits"] (nJ Z.CF)) (iy:ae P w K mg base 3 "exact_sum" ["x","y"] (kH Z K)) (gB:ae P w K mg base 4 "multiplied" ["kind","a","b"] (mM Z K)) (D:aX K mg "multiplied_and_added" eZ ["kind","a","b","c"] f fd):ae P w K mg base 5 "multiplied_and_added" ["kind","a","b","c"] (eK Z K):=by
 refine ae.of D ir (fun vs H Q E h=>?_) (fun bJ A outer s H vs Q E hr h=>?_)
 ·obtain ⟨k,a,b,c,rfl,_⟩:=h;rfl
 ·obtain ⟨k,a,b,c,rfl,hk,ha,hb,hc,q⟩:=h;refine ⟨_,(ai (aR (PW.pt (ku (aN (ah aD (hr.mono (by decide)) (aa (pv 0) (aa (pv 1) ag)))) (ku (aN (ah aD (hr.mono (by decide)) (aa (pv 0) (aa (pv 2) ag)))) (hW (aN (ah aD (hr.mono (by decide)) (aa (pv 0) (aa (pv 3) ag)))))))) (aj (ao (bo T.bE (pv 0)))) aw)
   (ai (aR (PW.pt (ku (aN (ah az (hr.mono (by decide)) (aa (pv 0) (aa (pv 1) ag)))) (hW (aN (ah az (hr.mono (by decide)) (aa (pv 0) (aa (pv 2) ag))))))) (aj (ao (ah kI (hr.mono (by decide)) (aa (pv 0) (aa (ah gB (hr.mono (by decide)) (aa (pv 0) (aa (pv 1) (aa (pv 2) ag)))) (aa (pv 3) ag)))))) aw)
   (ai (aR (aN (ah az (hr.mono (by decide)) (aa (pv 0) (aa (pv 3) ag)))) (aj (ao (pv 3))) aw)
   (ai (aO (i:=4) ir.nd rfl (by first | exact Or.inl rfl | exact Or.inr rfl) (ah dX (hr.mono (by decide)) (aa (ah aA (hr.mono (by decide)) (aa (pv 0) (aa (pv 1) ag))) (aa (ah aA (hr.mono (by decide)) (aa (pv 0) (aa (pv 2) ag))) ag))))
   (aj (ao (ah aF (hr.mono (by decide)) (aa (pv 0) (aa (ah iy (hr.mono (by decide)) (aa (pv 4) (aa (ah aA (hr.mono (by decide)) (aa (pv 0) (aa (pv 3) ag))) ag))) (aa (aM T.cT) ag)))))))))),?_⟩
  simp_arith [cW,cb,hk,gd hk,↓eV (gd hk)];by_cases n1:Rd18.infinity k < aq k a
  ·rw [sx hk (.inl n1)] at q;simp only [n1,if_true];exact q H (aB.refl H)
  by_cases n2:Rd18.infinity k < aq k b
  ·rw [sx hk (.inr (.inl n2))] at q;simp only [n1,n2,if_true,if_false];exact q H (aB.refl H)
  by_cases n3:Rd18.infinity k < aq k c
  ·rw [sx hk (.inr (.inr n3))] at q;simp only [n1,n2,n3,if_true,if_false];exact q H (aB.refl H)
  rw [JJ hk ha hb hc n1 n2 n3] at q;simp only [n1,n2,n3,if_false];by_cases h1:aq k a=Rd18.infinity k
  ·simp only [h1,true_or,if_true] at q ⊢;exact ⟨k,a,b,rfl,hk,n1,n2,fun H1 s1=>⟨k,_,c,rfl,hk,qC hk _,hc,fun H2 s2=>q H2 (s1.trans s2)⟩⟩
  by_cases h2:aq k b=Rd18.infinity k
  ·simp only [h1,h2,or_true,if_true,if_false] at q ⊢;exact ⟨k,a,b,rfl,hk,n1,n2,fun H1 s1=>⟨k,_,c,rfl,hk,qC hk _,hc,fun H2 s2=>q H2 (s1.trans s2)⟩⟩
  by_cases h3:aq k c=Rd18.infinity k
  ·simp only [h1,h2,h3,or_self,if_true,if_false] at q ⊢;exact q H (aB.refl H)
  simp only [h1,h2,h3,or_self,if_false] at q ⊢;rw [zg hk] at q;refine gh hk fun x H1 s1 hx=>gh hk fun y H2 s2 hy=>?_;have b1:=qX (b:=a) hk;have b2:=qX (b:=b) hk;have b3:=qX (b:=c) hk;have bm:=wH (aS k (aq k a)) (aS k (aq k b));refine ⟨x,y,_,_,_,_,_,_,rfl,hx.of s2,hy,by omega,fun r H3 s3 hr=>?_⟩;refine gh hk fun z H4 s4 hz=>ER (hr.of s4) hz (by omega) (by omega) fun r2 H5 s5 xT=>eJ hk xT ?_ (q _ ((((s1.trans s2).trans s3).trans s4).trans s5));exact Ee (by omega) (by omega) (by omega) (by omega) (by omega) (by omega)
noncomputable abbrev pY (_:cg) (_:PySem.W.Frag):Sp:=fun vs H Q _=>∃ k o a b:Nat,vs=[.int k,.int o,.int a,.int b]∧Bk k∧o≤5∧Vb k a∧Vb k b∧pX (Rd18.op k o a b) H Q
theorem zI {k o a b:Nat} (hk:Bk k):Rd18.op k o a b=Rd18.near k (if o=0 then Rd18.plus (Rd18.worth k a) (Rd18.worth k b) else if o=1 then Rd18.plus (Rd18.worth k a) (Rd18.minus (Rd18.worth k b)) else if o=2 then Rd18.times (Rd18.worth k a) (Rd18.worth k b) else
  if o=3 then Rd18.lesser (Rd18.worth k a) (Rd18.worth k b) else if o=4 then Rd18.greater (Rd18.worth k a) (Rd18.worth k b) else Rd18.over_ (Rd18.worth k a) (Rd18.worth k b)):=by
 unfold Rd18.op;rw [if_pos hk.broken]
theorem II {k o a b:Nat} (hk:Bk k) (h:Rd18.infinity k < aq k a∨Rd18.infinity k < aq k b):Rd18.op k o a b=Rd18.plain k:=by
 rw [zI hk];have tl:∀ x,Rd18.times .nan x=.nan:=fun x=>by cases x <;> rfl
 have tr:∀ x,Rd18.times x .nan=.nan:=fun x=>by cases x <;> rfl
 have ol:∀ x,Rd18.over_ .nan x=.nan:=fun x=>by cases x <;> rfl
 have or':∀ x,Rd18.over_ x .nan=.nan:=fun x=>by cases x <;> rfl
 have mn:Rd18.minus .nan=.nan:=rfl;have ll:∀ x,Rd18.lesser .nan x=.nan:=fun x=>by unfold Rd18.lesser;rw [if_pos (.inl rfl)]
 have lr:∀ x,Rd18.lesser x .nan=.nan:=fun x=>by unfold Rd18.lesser;rw [if_pos (.inr rfl)]
 have gl:∀ x,Rd18.greater .nan x=.nan:=fun x=>by unfold Rd18.greater;rw [if_pos (.inl rfl)]
 have gr:∀ x,Rd18.greater x .nan=.nan:=fun x=>by unfold Rd18.greater;rw [if_pos (.inr rfl)]
 rcases h with h | h
 ·rw [rm (b:=b) hk h];simp only [n0,tl,ol,ll,gl,ite_self];exact bS hk
 ·rw [rm (b:=b) hk h];simp only [rS,tr,or',mn,lr,gr,ite_self];exact bS hk
theorem xU (T:Ty K mg Z) (aD:ae P w K mg base 1 "is_no_number" ["kind","bits"] cW) (kI:ae P w K mg base 4 "added" ["kind","a","b"] (tT Z K)) (gC:ae P w K mg base 5 "subtracted" ["kind","a","b"] (mL Z K)) (gB:ae P w K mg base 4 "multiplied" ["kind","a","b"] (mM Z K)) (uS:ae P w K mg base 4 "divided" ["kind","a","b"] (xS Z K)) (xV:ae P w K mg base 2 "lesser" ["kind","a","b"] (uR Z K)) (uT:ae P w K mg base 2 "greater" ["kind","a","b"] (sv Z K)) (D:aX K mg "done_broken" mI ["kind","op","a","b"] f fd):ae P w K mg base 6 "done_broken" ["kind","op","a","b"] (pY Z K):=by
 refine ae.of D xK (fun vs H Q E h=>?_) (fun bJ A outer s H vs Q E hr h=>?_)
 ·obtain ⟨k,o,a,b,rfl,_⟩:=h;rfl
 ·obtain ⟨k,o,a,b,rfl,hk,ho,ha,hb,q⟩:=h;refine ⟨_,(ai (aR (PW.pt (ku (aN (ah aD (hr.mono (by decide)) (aa (pv 0) (aa (pv 2) ag)))) (hW (aN (ah aD (hr.mono (by decide)) (aa (pv 0) (aa (pv 3) ag))))))) (aj (ao (bo T.bE (pv 0)))) aw)
   (ai (aR (aG bD (pv 1) (aM T.dG) (aJ _)) (aj (ao (ah kI (hr.mono (by decide)) (aa (pv 0) (aa (pv 2) (aa (pv 3) ag)))))) aw)
   (ai (aR (aG bD (pv 1) (aM T.xO) (aJ _)) (aj (ao (ah gC (hr.mono (by decide)) (aa (pv 0) (aa (pv 2) (aa (pv 3) ag)))))) aw)
   (ai (aR (aG bD (pv 1) (aM T.nM) (aJ _)) (aj (ao (ah gB (hr.mono (by decide)) (aa (pv 0) (aa (pv 2) (aa (pv 3) ag)))))) aw)
   (ai (aR (aG bD (pv 1) (aM T.jm) (aJ _)) (aj (ao (ah uS (hr.mono (by decide)) (aa (pv 0) (aa (pv 2) (aa (pv 3) ag)))))) aw)
   (aj (ao (br (aG bD (pv 1) (aM T.pV) (aJ _)) (ah xV (hr.mono (by decide)) (aa (pv 0) (aa (pv 2) (aa (pv 3) ag)))) (ah uT (hr.mono (by decide)) (aa (pv 0) (aa (pv 2) (aa (pv 3) ag)))))))))))),?_⟩
  have e0:((o:Int)=0)=(o=0):=by apply propext;omega
  have e1:((o:Int)=1)=(o=1):=by apply propext;omega
  have e2:((o:Int)=2)=(o=2):=by apply propext;omega
  have e3:((o:Int)=3)=(o=3):=by apply propext;omega
  have e5:((o:Int)=5)=(o=5):=by apply propext;omega
  simp_arith [cW,hk,gd hk,e0,e1,e2,e3,e5,uR,sv,↓eV (gd hk)];by_cases n1:Rd18.infinity k < aq k a
  ·rw [II hk (.inl n1)] at q;simp only [n1,if_true];exact q H (aB.refl H)
  by_cases n2:Rd18.infinity k < aq k b
  ·rw [II hk (.inr n2)] at q;simp only [n1,n2,if_true,if_false];exact q H (aB.refl H)
  rw [zI hk] at q;simp only [n1,n2,if_false];by_cases h0:o=0
  ·simp only [h0,if_true] at q ⊢;exact ⟨k,a,b,rfl,hk,ha,hb,q⟩
  by_cases h1:o=1
  ·simp only [h0,h1,if_true,if_false] at q ⊢;simp only [Nat.one_ne_zero,if_false,if_true] at q ⊢;exact ⟨k,a,b,rfl,hk,ha,hb,q⟩
  by_cases h2:o=2
  ·subst h2;simp only [if_true,if_false,Nat.reduceEqDiff] at q ⊢;exact ⟨k,a,b,rfl,hk,n1,n2,q⟩
  by_cases h5:o=5
  ·subst h5;simp only [if_true,if_false,Nat.reduceEqDiff] at q ⊢;exact ⟨k,a,b,rfl,hk,n1,n2,q⟩
  by_cases h3:o=3
  ·subst h3;simp only [if_true,if_false,Nat.reduceEqDiff] at q ⊢;rw [Fg hk ha hb n1 n2] at q;exact q H (aB.refl H)
  have h4:o=4:=by omega
  subst h4;simp only [if_true,if_false,Nat.reduceEqDiff] at q ⊢;rw [CJ hk ha hb n1 n2 (G1 ha hb)] at q;exact q H (aB.refl H)
noncomputable abbrev AI (_:cg) (_:PySem.W.Frag):Sp:=fun vs H Q _=>∃ k o a b:Nat,vs=[.int k,.int o,.int a,.int b]∧k≤8∧o≤5∧(o=5→Bk k)∧Vk k a∧Vk k b∧pX (Rd18.op k o a b) H Q
theorem xW {k b:Nat} (h:k < 6) (hb:Vk k b):-(2 ^ 64) < Rd18.whole k b∧Rd18.whole k b < 2 ^ 64:=by
 have hw:=pR h;have hp:2 ^ Rd18.width k≤2 ^ 64:=Nat.pow_le_pow_right (by decide) hw.2;unfold Vk at hb;unfold Rd18.whole;rw [cD (Rd18.width k)];have h1:=Nat.two_pow_pos (Rd18.width k - 1);generalize 2 ^ Rd18.width k=x at *
 generalize 2 ^ (Rd18.width k - 1)=y at *
 split <;> omega
theorem IJ {k o a b:Nat} (hk:k < 6) (ho:o≤4):Rd18.op k o a b=Rd18.bitsOf k (AG o (Rd18.whole k a) (Rd18.whole k b)):=by
 unfold Rd18.op;rw [if_neg (by rw [eS hk];decide)];rfl
theorem KI (T:Ty K mg Z) (aV:ae P w K mg base 1 "is_broken" ["kind"] cR) (dY:ae P w K mg base 1 "bits_of_whole" ["kind","whole"] tQ) (mN:ae P w K mg base 6 "done_broken" ["kind","op","a","b"] (pY Z K)) (om:ae P w K mg base 1 "done_whole" ["op","a","b"] (mK Z K)) (bc:ae P w K mg base 3 "whole_of_bits" ["kind","bits"] jV) (D:aX K mg "done" DC ["kind","op","a","b"] f fd):ae P w K mg base 7 "done" ["kind","op","a","b"] (AI Z K):=by
 refine ae.of D KA (fun vs H Q E h=>?_) (fun bJ A outer s H vs Q E hr h=>?_)
 ·obtain ⟨k,o,a,b,rfl,_⟩:=h;rfl
 ·obtain ⟨k,o,a,b,rfl,xX,ho,h5,ha,hb,q⟩:=h;refine ⟨_,(ai (aR (aN (ah aV (hr.mono (by decide)) (aa (pv 0) ag))) (aj (ao (ah mN (hr.mono (by decide)) (aa (pv 0) (aa (pv 1) (aa (pv 2) (aa (pv 3) ag))))))) aw)
   (aj (ao (ah dY (hr.mono (by decide)) (aa (pv 0) (aa (ah om (hr.mono (by decide)) (aa (pv 1) (aa (ah bc (hr.mono (by decide)) (aa (pv 0) (aa (pv 2) ag))) (aa (ah bc (hr.mono (by decide)) (aa (pv 0) (aa (pv 3) ag))) ag)))) ag)))))),?_⟩
  simp_arith [cR];by_cases Rk:6≤k
  ·have hk:Bk k:=by unfold Bk;omega
   simp only [Rk,if_true];exact ⟨k,o,a,b,rfl,hk,ho,ha.vb hk,hb.vb hk,q⟩
  ·have hk:k < 6:=by omega
   have Vl:o≤4:=by
    rcases Nat.lt_or_ge o 5 with h | h
    ·omega
    ·exact absurd (h5 (by omega)).le Rk
   rw [IJ hk Vl] at q;simp_arith [Rk,if_false,jV,tQ,mK];have w1:=xW hk ha;exact ⟨hk,ha,hk,hb,w1.1,w1.2,hk,q H (aB.refl H)⟩
end
noncomputable abbrev mO:Stmt:=top 63
theorem pZ:ay ["old","new","way","bits","whole"] ["old","new","way","bits"] (ak mO):=⟨rfl,rfl,rfl,by decide +kernel,rfl,by decide +kernel,by decide +kernel⟩
noncomputable abbrev ib:Stmt:=top 64
theorem qY:ay ["kind","whole"] ["kind","whole"] (ak ib):=⟨rfl,rfl,rfl,by decide +kernel,rfl,by decide +kernel,by decide +kernel⟩
noncomputable abbrev iR:Stmt:=top 65
theorem sy:ay ["old","new","way","bits"] ["old","new","way","bits"] (ak iR):=⟨rfl,rfl,rfl,by decide +kernel,rfl,by decide +kernel,by decide +kernel⟩
noncomputable abbrev ic:Stmt:=top 66
theorem qZ:ay ["old","new","way","bits"] ["old","new","way","bits"] (ak ic):=⟨rfl,rfl,rfl,by decide +kernel,rfl,by decide +kernel,by decide +kernel⟩
noncomputable abbrev k8:Stmt:=top 67
theorem kg:ay ["kind","way","parts","bits","number","size"] ["kind","way","parts","bits"] (ak k8):=⟨rfl,rfl,rfl,by decide +kernel,rfl,by decide +kernel,by decide +kernel⟩
noncomputable abbrev mP:Stmt:=top 68
theorem xY:ay ["kind","way","parts","bits"] ["kind","way","parts","bits"] (ak mP):=⟨rfl,rfl,rfl,by decide +kernel,rfl,by decide +kernel,by decide +kernel⟩
noncomputable abbrev k9:Stmt:=top 69
theorem oU:ay ["kind","bits","number"] ["kind","bits"] (ak k9):=⟨rfl,rfl,rfl,by decide +kernel,rfl,by decide +kernel,by decide +kernel⟩
noncomputable abbrev mQ:Stmt:=top 70
theorem lb:ay ["kind","bits","sign","size"] ["kind","bits"] (ak mQ):=⟨rfl,rfl,rfl,by decide +kernel,rfl,by decide +kernel,by decide +kernel⟩
noncomputable abbrev xZ:Stmt:=top 71
theorem qO:ay ["kind","part","power","number","by"] ["kind","part","power"] (ak xZ):=⟨rfl,rfl,rfl,by decide +kernel,rfl,by decide +kernel,by decide +kernel⟩
noncomputable abbrev gi:Stmt:=top 72
theorem ja:ay ["kind","part","power_sign","sign"] ["kind","part","power_sign"] (ak gi):=⟨rfl,rfl,rfl,by decide +kernel,rfl,by decide +kernel,by decide +kernel⟩
noncomputable def d6:Option Nat→V
 | none=>.dR
 | some b=>.int b
noncomputable abbrev MQ (c:Option Nat) (H:Hp) (Q:VK):Prop:=∀ H',aB H H'→Q (d6 c) H'
section
variable {P:Program} {w:World} {K:PySem.W.Frag} {mg:Str→Option Value} {base:Heap} {f:Addr} {fd:FuncData} {Z:cg} {H:Hp} {Q:VK} {E:XK} {CF:Addr}
noncomputable abbrev gL (_:cg) (_:PySem.W.Frag):Sp:=fun vs H Q _=>∃ (k:Nat) (n:Int),vs=[.int k,.int n]∧k < 6∧Q (d6 (if Rd18.fits k n=true then some (Rd18.bitsOf k n) else none)) H
theorem rd (T:Ty K mg Z) (p4:ae P w K mg base 3 "has_whole" ["kind","whole"] so) (dY:ae P w K mg base 1 "bits_of_whole" ["kind","whole"] tQ) (D:aX K mg "bits_if_kind_has" ib ["kind","whole"] f fd):ae P w K mg base 4 "bits_if_kind_has" ["kind","whole"] (gL Z K):=by
 refine ae.of D qY (fun vs H Q E h=>?_) (fun bJ A outer s H vs Q E hr h=>?_)
 ·obtain ⟨k,n,rfl,_⟩:=h;rfl
 ·obtain ⟨k,n,rfl,hk,q⟩:=h;refine ⟨_,(aj (ao (br (aN (ah p4 (hr.mono (by decide)) (aa (pv 0) (aa (pv 1) ag)))) (ah dY (hr.mono (by decide)) (aa (pv 0) (aa (pv 1) ag))) n8))),?_⟩;simp_arith [so,tQ,hk];by_cases h0:Rd18.fits k n=true
  ·simp only [h0,if_true] at q ⊢;exact q
  ·simp only [h0,if_false] at q ⊢;exact q
theorem Lm {w m:Nat} {neg:Bool} {e:Int} {x:Addr} (hw:w≤3) (hx:iw CF H x neg m e) (hb:Ll m e) (q:Q (.int (Rd18.madeWhole w neg m e)) H):tN CF [.ref x,.int w] H Q E:=by
 obtain ⟨dx,hx⟩:=hx;exact ⟨w,m,neg,e,x,dx,rfl,hw,hx,hb,q⟩
theorem IK {k b:Nat} (hk:Bk k):Ll (aS k (aq k b)) (bP k (aq k b)):=by
 have:=qX (b:=b) hk;exact ⟨by omega,by omega,by omega⟩
noncomputable abbrev lg (_:cg) (_:PySem.W.Frag):Sp:=fun vs H Q _=>∃ old new w b:Nat,vs=[.int old,.int new,.int w,.int b]∧Bk old∧new < 6∧w≤3∧MQ (Rd18.made new w (Rd18.worth old b)) H Q
theorem sC (T:Ty K mg Z) (c9:ae P w K mg base 4 "bits_if_kind_has" ["kind","whole"] (gL Z K)) (aD:ae P w K mg base 1 "is_no_number" ["kind","bits"] cW) (az:ae P w K mg base 1 "is_infinite" ["kind","bits"] cb) (dn:ae P w K mg base 3 "whole_of_finite" ["number","way"] (tN Z.CF)) (aA:ae P w K mg base 3 "finite_of_bits" ["kind","bits"] (nJ Z.CF)) (D:aX K mg "broken_as_whole" iR ["old","new","way","bits"] f fd):ae P w K mg base 5 "broken_as_whole" ["old","new","way","bits"] (lg Z K):=by
 refine ae.of D sy (fun vs H Q E h=>?_) (fun bJ A outer s H vs Q E hr h=>?_)
 ·obtain ⟨k,n,w,b,rfl,_⟩:=h;rfl
 ·obtain ⟨k,n,w,b,rfl,hk,hn,hw,q⟩:=h;refine ⟨_,(ai (aR (PW.pt (ku (aN (ah aD (hr.mono (by decide)) (aa (pv 0) (aa (pv 3) ag)))) (hW (aN (ah az (hr.mono (by decide)) (aa (pv 0) (aa (pv 3) ag))))))) (aj (ao n8)) aw)
   (aj (ao (ah c9 (hr.mono (by decide)) (aa (pv 1) (aa (ah dn (hr.mono (by decide)) (aa (ah aA (hr.mono (by decide)) (aa (pv 0) (aa (pv 3) ag))) (aa (pv 2) ag))) ag)))))),?_⟩
  rw [JN hk hn] at q;simp_arith [cW,cb,hk];by_cases h1:Rd18.infinity k < aq k b
  ·simp only [h1,true_or,if_true] at q ⊢;exact q H (aB.refl H)
  by_cases h2:aq k b=Rd18.infinity k
  ·simp only [h1,h2,Nat.lt_irrefl,or_true,if_true,if_false] at q ⊢;exact q H (aB.refl H)
  simp only [h1,h2,or_self,if_false] at q ⊢;refine gh hk fun x H1 s1 hx=>Lm hw hx (IK hk) ⟨n,_,rfl,hn,?_⟩;exact q H1 s1
noncomputable abbrev kA (_:cg) (_:PySem.W.Frag):Sp:=fun vs H Q _=>∃ old new w b:Nat,vs=[.int old,.int new,.int w,.int b]∧Bk old∧Bk new∧w≤3∧MQ (Rd18.made new w (Rd18.worth old b)) H Q
theorem rf (T:Ty K mg Z) (aD:ae P w K mg base 1 "is_no_number" ["kind","bits"] cW) (az:ae P w K mg base 1 "is_infinite" ["kind","bits"] cb) (aF:ae P w K mg base 3 "bits_of_finite" ["kind","number","way"] (fW Z.CF)) (bh:ae P w K mg base 1 "with_sign" ["kind","sign","bits"] c8) (aA:ae P w K mg base 3 "finite_of_bits" ["kind","bits"] (nJ Z.CF)) (bt:ae P w K mg base 1 "sign_of" ["kind","bits"] fM) (D:aX K mg "broken_as_broken" ic ["old","new","way","bits"] f fd):ae P w K mg base 4 "broken_as_broken" ["old","new","way","bits"] (kA Z K):=by
 refine ae.of D qZ (fun vs H Q E h=>?_) (fun bJ A outer s H vs Q E hr h=>?_)
 ·obtain ⟨k,n,w,b,rfl,_⟩:=h;rfl
 ·obtain ⟨k,n,w,b,rfl,hk,hn,hw,q⟩:=h;refine ⟨_,(ai (aR (aN (ah aD (hr.mono (by decide)) (aa (pv 0) (aa (pv 3) ag)))) (aj (ao (bo T.bE (pv 1)))) aw)
   (ai (aR (aN (ah az (hr.mono (by decide)) (aa (pv 0) (aa (pv 3) ag)))) (aj (ao (ah bh (hr.mono (by decide)) (aa (pv 1) (aa (ah bt (hr.mono (by decide)) (aa (pv 0) (aa (pv 3) ag))) (aa (bo T.cj (pv 1)) ag)))))) aw)
   (aj (ao (ah aF (hr.mono (by decide)) (aa (pv 1) (aa (ah aA (hr.mono (by decide)) (aa (pv 0) (aa (pv 3) ag))) (aa (pv 2) ag)))))))),?_⟩
  rw [JO hk hn] at q;simp_arith [cW,cb,fM,hk,gd hn,eG hn];by_cases h1:Rd18.infinity k < aq k b
  ·simp only [h1,if_true] at q ⊢;exact q H (aB.refl H)
  by_cases h2:aq k b=Rd18.infinity k
  ·simp only [h1,h2,Nat.lt_irrefl,if_true,if_false] at q ⊢;exact Cc hn (q H (aB.refl H))
  simp only [h1,h2,if_false] at q ⊢;exact gh hk fun x H1 s1 hx=>Cb hn hw hx (IK hk) (q H1 s1)
noncomputable abbrev lh (_:cg) (_:PySem.W.Frag):Sp:=fun vs H Q _=>∃ old new w b:Nat,vs=[.int old,.int new,.int w,.int b]∧old≤8∧new≤8∧w≤3∧Vk old b∧MQ (Rd18.made new w (Rd18.worth old b)) H Q
theorem x6 (T:Ty K mg Z) (aV:ae P w K mg base 1 "is_broken" ["kind"] cR) (bc:ae P w K mg base 3 "whole_of_bits" ["kind","bits"] jV) (c9:ae P w K mg base 4 "bits_if_kind_has" ["kind","whole"] (gL Z K)) (iS:ae P w K mg base 5 "broken_as_whole" ["old","new","way","bits"] (lg Z K)) (cc:ae P w K mg base 4 "bits_of_whole_number" ["kind","whole","way"] (xG Z.CF)) (ie:ae P w K mg base 4 "broken_as_broken" ["old","new","way","bits"] (kA Z K)) (D:aX K mg "cast_number" mO ["old","new","way","bits"] f fd):ae P w K mg base 6 "cast_number" ["old","new","way","bits"] (lh Z K):=by
 refine ae.of D pZ (fun vs H Q E h=>?_) (fun bJ A outer s H vs Q E hr h=>?_)
 ·obtain ⟨k,n,w,b,rfl,_⟩:=h;rfl
 ·obtain ⟨k,n,w,b,rfl,xX,XX,hw,hb,q⟩:=h;refine ⟨_,(ai (aR (aN (ah aV (hr.mono (by decide)) (aa (pv 0) ag))) (ai (aR (aN (ah aV (hr.mono (by decide)) (aa (pv 1) ag))) (aj (ao (ah ie (hr.mono (by decide)) (aa (pv 0) (aa (pv 1) (aa (pv 2) (aa (pv 3) ag))))))) aw)
   (aj (ao (ah iS (hr.mono (by decide)) (aa (pv 0) (aa (pv 1) (aa (pv 2) (aa (pv 3) ag)))))))) aw)
   (ai (aO (i:=4) pZ.nd rfl (by first | exact Or.inl rfl | exact Or.inr rfl) (ah bc (hr.mono (by decide)) (aa (pv 0) (aa (pv 3) ag))))
   (ai (aR (aN (ah aV (hr.mono (by decide)) (aa (pv 1) ag))) (aj (ao (ah cc (hr.mono (by decide)) (aa (pv 1) (aa (pv 4) (aa (pv 2) ag)))))) aw)
   (aj (ao (ah c9 (hr.mono (by decide)) (aa (pv 1) (aa (pv 4) ag)))))))),?_⟩
  simp_arith [cR];by_cases k6:6≤k
  ·have hk:Bk k:=by unfold Bk;omega
   by_cases n6:6≤n
   ·have hn:Bk n:=by unfold Bk;omega
    simp only [k6,n6,if_true];exact ⟨k,n,w,b,rfl,hk,hn,hw,q⟩
   ·have hn:n < 6:=by omega
    simp only [k6,n6,if_true,if_false];exact ⟨k,n,w,b,rfl,hk,hn,hw,q⟩
  ·have hk:k < 6:=by omega
   by_cases n6:6≤n
   ·have hn:Bk n:=by unfold Bk;omega
    simp only [k6,n6,if_true,if_false];rw [JM hk hn] at q;refine ⟨k,b,rfl,hk,hb,?_⟩;simp only [n6,if_true];have Nk:=xW hk hb;have K3:bq (Rd18.whole k b).natAbs≤60000:=by
     have:=bK (m:=(Rd18.whole k b).natAbs) (d:=64) (by omega);omega
    exact ⟨n,w,_,rfl,hn,hw,K3,q⟩
   ·have hn:n < 6:=by omega
    simp only [k6,n6,if_true,if_false];rw [JL hk hn] at q;refine ⟨k,b,rfl,hk,hb,?_⟩;simp only [n6,if_false];exact ⟨n,_,rfl,hn,q H (aB.refl H)⟩
noncomputable abbrev g7 (_:cg) (_:PySem.W.Frag):Sp:=fun vs H Q _=>∃ k w n b:Nat,vs=[.int k,.int w,.int n,.int b]∧Bk k∧w≤3∧n≤15∧Vb k b∧pX (Rd18.near k (Rd18.multiple w n (Rd18.worth k b))) H Q
theorem x8 {R:Addr→Hp→Prop} {e:Int} {m:Nat} {neg:Bool} {v1 v2 v3:V} (e1:v1=.int (sg neg)) (e2:v2=.int m) (e3:v3=.int e) (h:∀ x H',aB H H'→iw CF H' x neg m e→R x H'):∀ x H2,EM CF H H2 x [("sign",v1),("size",v2),("power",v3)]→R x H2:=by
 subst e1;subst e2;subst e3;intro x H2 n;exact h x H2 n.1 n.2.2
theorem vL (T:Ty K mg Z) (aD:ae P w K mg base 1 "is_no_number" ["kind","bits"] cW) (az:ae P w K mg base 1 "is_infinite" ["kind","bits"] cb) (aA:ae P w K mg base 3 "finite_of_bits" ["kind","bits"] (nJ Z.CF)) (bV:ae P w K mg base 2 "without_low_bits" ["size","drop","sign","way"] zH) (aF:ae P w K mg base 3 "bits_of_finite" ["kind","number","way"] (fW Z.CF)) (bG:lO P w K mg base 1 "Finite" Z.CF ["sign","size","power"]) (D:aX K mg "whole_number" k8 ["kind","way","parts","bits"] f fd):ae P w K mg base 4 "whole_number" ["kind","way","parts","bits"] (g7 Z K):=by
 refine ae.of D kg (fun vs H Q E h=>?_) (fun bJ A outer s H vs Q E hr h=>?_)
 ·obtain ⟨k,w,n,b,rfl,_⟩:=h;rfl
 ·obtain ⟨k,w,n,b,rfl,hk,hw,hn,hb,q⟩:=h;refine ⟨_,(ai (aR (aN (ah aD (hr.mono (by decide)) (aa (pv 0) (aa (pv 3) ag)))) (aj (ao (bo T.bE (pv 0)))) aw)
   (ai (aR (aN (ah az (hr.mono (by decide)) (aa (pv 0) (aa (pv 3) ag)))) (aj (ao (pv 3))) aw)
   (ai (aO (i:=4) kg.nd rfl (by first | exact Or.inl rfl | exact Or.inr rfl) (ah aA (hr.mono (by decide)) (aa (pv 0) (aa (pv 3) ag))))
   (ai (aO (i:=5) kg.nd rfl (by first | exact Or.inl rfl | exact Or.inr rfl) (ah bV (hr.mono (by decide)) (aa (aE (pv 4) rfl) (aa (aT cP (pD kS (pv 2)) (aE (pv 4) rfl)) (aa (aE (pv 4) rfl) (aa (pv 1) ag))))))
   (aj (ao (ah aF (hr.mono (by decide)) (aa (pv 0) (aa (dQ bG (hr.mono (by decide)) (aa (aE (pv 4) rfl) (aa (pv 5) (aa (pD kS (pv 2)) ag)))) (aa (aM T.cT) ag)))))))))),?_⟩
  simp_arith [cW,cb,hk,gd hk,yU,List.zip_cons_cons,List.zip_nil_left,↓eV (gd hk)];by_cases h1:Rd18.infinity k < aq k b
  ·have:Rd18.near k (Rd18.multiple w n (Rd18.worth k b))=Rd18.plain k:=by rw [rm (b:=b) hk h1];exact bS hk
   rw [this] at q;simp only [h1,if_true];exact q H (aB.refl H)
  by_cases h2:aq k b=Rd18.infinity k
  ·have:Rd18.near k (Rd18.multiple w n (Rd18.worth k b))=b:=by
    rcases aY (b:=b) hk with ⟨g1,_⟩ | ⟨g1,w1⟩ | ⟨g1,_⟩
    ·omega
    ·rw [w1];show Rd18.near k (.inf _)=b;rw [cO hk,← g1];exact (lT hb).symm
    ·omega
   rw [this] at q;simp only [h1,h2,Nat.lt_irrefl,if_true,if_false];exact q H (aB.refl H)
  have h3:aq k b < Rd18.infinity k:=by omega
  rw [rn hk h3] at q;simp only [h1,h2,if_false];refine gh hk fun x H1 s1 hx=>?_;obtain ⟨dx,hx⟩:=hx;simp_arith [hx,cw,cx,bW,T.i8,T.uG,T.uH,T.uI,↓cy hx T.i8 T.uG (cw _ _ _),↓cy hx T.i8 T.uH (cx _ _ _),↓cy hx T.i8 T.uI (bW _ _ _)];have fb:=qX (b:=b) hk;refine ⟨_,w,_,_,rfl,hw,by omega,by omega,by omega,?_⟩;simp_arith [hx,cw,cx,bW,T.i8,T.uG,T.uH,T.uI,↓cy hx T.i8 T.uG (cw _ _ _),↓cy hx T.i8 T.uH (cx _ _ _),↓cy hx T.i8 T.uI (bW _ _ _)];refine x8 rfl rfl rfl fun y H2 s2 hy=>eJ hk hy ?_ (q _ (s1.trans s2));have hu:bq (cM w (a9 k b) (aS k (aq k b)) (-(n:Int) - bP k (aq k b)))≤3000:=by
   by_cases hD:-(n:Int) - bP k (aq k b)≤0
   ·rw [du hD];have:=pk (aS k (aq k b)) (-(-(n:Int) - bP k (aq k b))).toNat;omega
   ·have h4:=units_le (w:=w) (neg:=a9 k b) (m:=aS k (aq k b)) (D:=-(n:Int) - bP k (aq k b)) (by omega);have h5:=qA h4;have h6:=wI (aS k (aq k b) / 2 ^ (-(n:Int) - bP k (aq k b)).toNat) 1;have h7:=Bg (aS k (aq k b)) (-(n:Int) - bP k (aq k b)).toNat;have e7:bq 1=1:=by decide
    omega
  exact ⟨by omega,by omega,by omega⟩
noncomputable abbrev lj (_:cg) (_:PySem.W.Frag):Sp:=fun vs H Q _=>∃ k w n b:Nat,vs=[.int k,.int w,.int n,.int b]∧Bk k∧w≤3∧n≤15∧Vb k b∧pX (Rd18.near k (Rd18.restOf w n (Rd18.worth k b))) H Q
theorem x9 (T:Ty K mg Z) (az:ae P w K mg base 1 "is_infinite" ["kind","bits"] cb) (gC:ae P w K mg base 5 "subtracted" ["kind","a","b"] (mL Z K)) (cS:ae P w K mg base 4 "whole_number" ["kind","way","parts","bits"] (g7 Z K)) (D:aX K mg "rest_number" mP ["kind","way","parts","bits"] f fd):ae P w K mg base 6 "rest_number" ["kind","way","parts","bits"] (lj Z K):=by
 refine ae.of D xY (fun vs H Q E h=>?_) (fun bJ A outer s H vs Q E hr h=>?_)
 ·obtain ⟨k,w,n,b,rfl,_⟩:=h;rfl
 ·obtain ⟨k,w,n,b,rfl,hk,hw,hn,hb,q⟩:=h;refine ⟨_,(ai (aR (aN (ah az (hr.mono (by decide)) (aa (pv 0) (aa (pv 3) ag)))) (aj (ao ar)) aw)
   (aj (ao (ah gC (hr.mono (by decide)) (aa (pv 0) (aa (pv 3) (aa (ah cS (hr.mono (by decide)) (aa (pv 0) (aa (pv 1) (aa (pv 2) (aa (pv 3) ag))))) ag))))))),?_⟩
  rw [rest_eq hk hb hn] at q;simp_arith [cb,hk];by_cases h2:aq k b=Rd18.infinity k
  ·simp only [h2,if_true] at q ⊢;exact q H (aB.refl H)
  simp only [h2,if_false] at q ⊢;rw [rQ hk (qC hk _)] at q;exact ⟨k,w,n,b,rfl,hk,hw,hn,hb,fun H1 s1=>⟨k,b,_,rfl,hk,hb,qC hk _,fun H2 s2=>q H2 (s1.trans s2)⟩⟩
noncomputable abbrev kh (_:cg) (_:PySem.W.Frag):Sp:=fun vs H Q _=>∃ k b:Nat,vs=[.int k,.int b]∧Bk k∧pX (Rd18.near k (Rd18.powerOf (Rd18.worth k b))) H Q
theorem vM (T:Ty K mg Z) (aD:ae P w K mg base 1 "is_no_number" ["kind","bits"] cW) (az:ae P w K mg base 1 "is_infinite" ["kind","bits"] cb) (ck:ae P w K mg base 1 "is_zero" ["kind","bits"] gf) (aA:ae P w K mg base 3 "finite_of_bits" ["kind","bits"] (nJ Z.CF)) (cc:ae P w K mg base 4 "bits_of_whole_number" ["kind","whole","way"] (xG Z.CF)) (bh:ae P w K mg base 1 "with_sign" ["kind","sign","bits"] c8) (D:aX K mg "power_number" k9 ["kind","bits"] f fd):ae P w K mg base 5 "power_number" ["kind","bits"] (kh Z K):=by
 refine ae.of D oU (fun vs H Q E h=>?_) (fun bJ A outer s H vs Q E hr h=>?_)
 ·obtain ⟨k,b,rfl,_⟩:=h;rfl
 ·obtain ⟨k,b,rfl,hk,q⟩:=h;refine ⟨_,(ai (aR (aN (ah aD (hr.mono (by decide)) (aa (pv 0) (aa (pv 1) ag)))) (aj (ao (bo T.bE (pv 0)))) aw)
   (ai (aR (aN (ah az (hr.mono (by decide)) (aa (pv 0) (aa (pv 1) ag)))) (aj (ao (bo T.cj (pv 0)))) aw)
   (ai (aR (aN (ah ck (hr.mono (by decide)) (aa (pv 0) (aa (pv 1) ag)))) (aj (ao (ah bh (hr.mono (by decide)) (aa (pv 0) (aa ar (aa (bo T.cj (pv 0)) ag)))))) aw)
   (ai (aO (i:=2) oU.nd rfl (by first | exact Or.inl rfl | exact Or.inr rfl) (ah aA (hr.mono (by decide)) (aa (pv 0) (aa (pv 1) ag))))
   (aj (ao (ah cc (hr.mono (by decide)) (aa (pv 0) (aa (aT cP (aT eh (aE (pv 2) rfl) (nE (aE (pv 2) rfl))) ar) (aa (aM T.cT) ag)))))))))),?_⟩
  simp_arith [cW,cb,gf,hk,gd hk,eG hk,↓eV (gd hk),↓eV (eG hk)];by_cases h1:Rd18.infinity k < aq k b
  ·have:Rd18.near k (Rd18.powerOf (Rd18.worth k b))=Rd18.plain k:=by rw [rm (b:=b) hk h1];exact bS hk
   rw [this] at q;simp only [h1,if_true];exact q H (aB.refl H)
  rw [G2 hk h1] at q;by_cases h2:aq k b=Rd18.infinity k
  ·simp only [h1,h2,Nat.lt_irrefl,if_true,if_false] at q ⊢;exact q H (aB.refl H)
  by_cases h3:aq k b=0
  ·simp only [h1,h2,h3,(show ¬ 0=Rd18.infinity k by have:=tK hk;omega),if_true,if_false] at q ⊢;exact MP (E:=E0) hk (q H (aB.refl H))
  simp only [h1,h2,h3,if_false] at q ⊢;refine gh hk fun x H1 s1 hx=>?_;obtain ⟨dx,hx⟩:=hx;simp_arith [hx,cw,cx,bW,T.i8,T.uG,T.uH,T.uI,kZ,↓cy hx T.i8 T.uG (cw _ _ _),↓cy hx T.i8 T.uH (cx _ _ _),↓cy hx T.i8 T.uI (bW _ _ _)];have fb:=qX (b:=b) hk;have fn:=bL (aS k (aq k b));refine ⟨k,0,_,rfl,hk,by decide,?_,fun H2 s2=>q H2 (s1.trans s2)⟩;have:=bK (m:=(bP k (aq k b)+bq (aS k (aq k b)) - 1).natAbs) (d:=20) (by omega);omega
noncomputable abbrev lp (_:cg) (_:PySem.W.Frag):Sp:=fun vs H Q _=>∃ k b:Nat,vs=[.int k,.int b]∧Bk k∧pX (Rd18.near k (Rd18.partOf (Rd18.worth k b))) H Q
theorem ya (T:Ty K mg Z) (aD:ae P w K mg base 1 "is_no_number" ["kind","bits"] cW) (bt:ae P w K mg base 1 "sign_of" ["kind","bits"] fM) (aF:ae P w K mg base 3 "bits_of_finite" ["kind","number","way"] (fW Z.CF)) (az:ae P w K mg base 1 "is_infinite" ["kind","bits"] cb) (ck:ae P w K mg base 1 "is_zero" ["kind","bits"] gf) (aA:ae P w K mg base 3 "finite_of_bits" ["kind","bits"] (nJ Z.CF)) (bG:lO P w K mg base 1 "Finite" Z.CF ["sign","size","power"]) (D:aX K mg "part_number" mQ ["kind","bits"] f fd):ae P w K mg base 4 "part_number" ["kind","bits"] (lp Z K):=by
 refine ae.of D lb (fun vs H Q E h=>?_) (fun bJ A outer s H vs Q E hr h=>?_)
 ·obtain ⟨k,b,rfl,_⟩:=h;rfl
 ·obtain ⟨k,b,rfl,hk,q⟩:=h;refine ⟨_,(ai (aR (aN (ah aD (hr.mono (by decide)) (aa (pv 0) (aa (pv 1) ag)))) (aj (ao (bo T.bE (pv 0)))) aw)
   (ai (aO (i:=2) lb.nd rfl (by first | exact Or.inl rfl | exact Or.inr rfl) (ah bt (hr.mono (by decide)) (aa (pv 0) (aa (pv 1) ag))))
   (ai (aR (PW.pt (ku (aN (ah az (hr.mono (by decide)) (aa (pv 0) (aa (pv 1) ag)))) (hW (aN (ah ck (hr.mono (by decide)) (aa (pv 0) (aa (pv 1) ag))))))) (aj (ao (ah aF (hr.mono (by decide)) (aa (pv 0) (aa (dQ bG (hr.mono (by decide)) (aa (pv 2) (aa ar (aa ar ag)))) (aa (aM T.cT) ag)))))) aw)
   (ai (aO (i:=3) lb.nd rfl (by first | exact Or.inl rfl | exact Or.inr rfl) (aE (ah aA (hr.mono (by decide)) (aa (pv 0) (aa (pv 1) ag))) rfl))
   (aj (ao (ah aF (hr.mono (by decide)) (aa (pv 0) (aa (dQ bG (hr.mono (by decide)) (aa (pv 2) (aa (pv 3) (aa (aT cP ar (nE (pv 3))) ag)))) (aa (aM T.cT) ag)))))))))),?_⟩
  simp_arith [cW,cb,gf,fM,hk,gd hk,yU,List.zip_cons_cons,List.zip_nil_left,↓eV (gd hk)];by_cases h1:Rd18.infinity k < aq k b
  ·have:Rd18.near k (Rd18.partOf (Rd18.worth k b))=Rd18.plain k:=by rw [rm (b:=b) hk h1];exact bS hk
   rw [this] at q;simp only [h1,if_true];exact q H (aB.refl H)
  rw [JK hk h1] at q;have one:Ll 1 0:=⟨by decide,by decide,by decide⟩;by_cases h2:aq k b=Rd18.infinity k
  ·simp only [h1,h2,Nat.lt_irrefl,true_or,if_true,if_false] at q ⊢;exact x8 (m:=1) (e:=0) rfl rfl rfl fun y H2 s2 hy=>eJ hk hy one (q _ s2)
  by_cases h3:aq k b=0
  ·simp only [h1,h2,h3,(show ¬ 0=Rd18.infinity k by have:=tK hk;omega),(show ¬ Rd18.infinity k < 0 by omega),or_true,if_true,if_false] at q ⊢;exact x8 (m:=1) (e:=0) rfl rfl rfl fun y H2 s2 hy=>eJ hk hy one (q _ s2)
  simp only [h1,h2,h3,or_self,if_false] at q ⊢;refine gh hk fun x H1 s1 hx=>?_;obtain ⟨dx,hx⟩:=hx;simp_arith [hx,cw,cx,bW,T.i8,T.uG,T.uH,T.uI,kZ,↓cy hx T.i8 T.uG (cw _ _ _),↓cy hx T.i8 T.uH (cx _ _ _),↓cy hx T.i8 T.uI (bW _ _ _)];have fb:=qX (b:=b) hk;have fn:=bL (aS k (aq k b));exact x8 rfl rfl rfl fun y H2 s2 hy=>eJ hk hy ⟨by omega,by omega,by omega⟩ (q _ (s1.trans s2))
noncomputable abbrev jb (_:cg) (_:PySem.W.Frag):Sp:=fun vs H Q _=>∃ (k a:Nat) (neg:Bool),vs=[.int k,.int a,.int (sg neg)]∧Bk k∧Q (.int ((if neg=true then (if aq k a=Rd18.infinity k then Rd18.plain k else Rd18.sign k (a9 k a) 0) else (if aq k a=0 then Rd18.plain k else Rd18.sign k (a9 k a) (Rd18.infinity k)):Nat):Int)) H
theorem o6 (T:Ty K mg Z) (bt:ae P w K mg base 1 "sign_of" ["kind","bits"] fM) (ck:ae P w K mg base 1 "is_zero" ["kind","bits"] gf) (bh:ae P w K mg base 1 "with_sign" ["kind","sign","bits"] c8) (az:ae P w K mg base 1 "is_infinite" ["kind","bits"] cb) (D:aX K mg "joined_by_infinity" gi ["kind","part","power_sign"] f fd):ae P w K mg base 2 "joined_by_infinity" ["kind","part","power_sign"] (jb Z K):=by
 refine ae.of D ja (fun vs H Q E h=>?_) (fun bJ A outer s H vs Q E hr h=>?_)
 ·obtain ⟨k,a,neg,rfl,_⟩:=h;rfl
 ·obtain ⟨k,a,neg,rfl,hk,q⟩:=h;refine ⟨_,(ai (aO (i:=3) ja.nd rfl (by first | exact Or.inl rfl | exact Or.inr rfl) (ah bt (hr.mono (by decide)) (aa (pv 0) (aa (pv 1) ag))))
   (ai (aR (aG bD (pv 2) ar (aJ _)) (aj (ao (br (aN (ah az (hr.mono (by decide)) (aa (pv 0) (aa (pv 1) ag)))) (bo T.bE (pv 0)) (ah bh (hr.mono (by decide)) (aa (pv 0) (aa (pv 3) (aa ar ag))))))) aw)
   (aj (ao (br (aN (ah ck (hr.mono (by decide)) (aa (pv 0) (aa (pv 1) ag)))) (bo T.bE (pv 0)) (ah bh (hr.mono (by decide)) (aa (pv 0) (aa (pv 3) (aa (bo T.cj (pv 0)) ag))))))))),?_⟩
  simp_arith [cb,gf,fM,hk,gd hk,eG hk,↓eV (gd hk),↓eV (eG hk)];cases neg
  ·have e:(sg false=1)=False:=by simp [sg]
   simp only [e,Bool.false_eq_true,if_false] at q ⊢;by_cases h3:aq k a=0
   ·simp only [h3,if_true] at q ⊢;exact q
   ·simp only [h3,if_false] at q ⊢;exact Cc hk q
  ·have e:(sg true=1)=True:=by simp [sg]
   simp only [e,if_true] at q ⊢;by_cases h3:aq k a=Rd18.infinity k
   ·simp only [h3,if_true] at q ⊢;exact q
   ·simp only [h3,if_false] at q ⊢;exact DJ hk q
noncomputable abbrev uU (_:cg) (_:PySem.W.Frag):Sp:=fun vs H Q _=>∃ k a b:Nat,vs=[.int k,.int a,.int b]∧Bk k∧Vb k a∧pX (Rd18.near k (Rd18.joined (Rd18.worth k a) (Rd18.worth k b))) H Q
theorem yb {k a b:Nat} (hk:Bk k) (h:Rd18.infinity k < aq k a∨Rd18.infinity k < aq k b):Rd18.near k (Rd18.joined (Rd18.worth k a) (Rd18.worth k b))=Rd18.plain k:=by
 rcases h with h | h
 ·rw [rm (b:=b) hk h,show Rd18.joined .nan (Rd18.worth k b)=.nan from by cases Rd18.worth k b <;> rfl,bS hk]
 ·rw [rm (b:=b) hk h,show Rd18.joined (Rd18.worth k a) .nan=.nan from by cases Rd18.worth k a <;> rfl,bS hk]
theorem Gg (T:Ty K mg Z) (az:ae P w K mg base 1 "is_infinite" ["kind","bits"] cb) (aA:ae P w K mg base 3 "finite_of_bits" ["kind","bits"] (nJ Z.CF)) (dn:ae P w K mg base 3 "whole_of_finite" ["number","way"] (tN Z.CF)) (aF:ae P w K mg base 3 "bits_of_finite" ["kind","number","way"] (fW Z.CF)) (aD:ae P w K mg base 1 "is_no_number" ["kind","bits"] cW) (gj:ae P w K mg base 2 "joined_by_infinity" ["kind","part","power_sign"] (jb Z K)) (bt:ae P w K mg base 1 "sign_of" ["kind","bits"] fM) (bG:lO P w K mg base 1 "Finite" Z.CF ["sign","size","power"]) (D:aX K mg "joined" xZ ["kind","part","power"] f fd):ae P w K mg base 4 "joined" ["kind","part","power"] (uU Z K):=by
 refine ae.of D qO (fun vs H Q E h=>?_) (fun bJ A outer s H vs Q E hr h=>?_)
 ·obtain ⟨k,a,b,rfl,_⟩:=h;rfl
 ·obtain ⟨k,a,b,rfl,hk,ha,q⟩:=h;refine ⟨_,(ai (aR (PW.pt (ku (aN (ah aD (hr.mono (by decide)) (aa (pv 0) (aa (pv 1) ag)))) (hW (aN (ah aD (hr.mono (by decide)) (aa (pv 0) (aa (pv 2) ag))))))) (aj (ao (bo T.bE (pv 0)))) aw)
   (ai (aR (aN (ah az (hr.mono (by decide)) (aa (pv 0) (aa (pv 2) ag)))) (aj (ao (ah gj (hr.mono (by decide)) (aa (pv 0) (aa (pv 1) (aa (ah bt (hr.mono (by decide)) (aa (pv 0) (aa (pv 2) ag))) ag)))))) aw)
   (ai (aR (aN (ah az (hr.mono (by decide)) (aa (pv 0) (aa (pv 1) ag)))) (aj (ao (pv 1))) aw)
   (ai (aO (i:=3) qO.nd rfl (by first | exact Or.inl rfl | exact Or.inr rfl) (ah aA (hr.mono (by decide)) (aa (pv 0) (aa (pv 1) ag))))
   (ai (aO (i:=4) qO.nd rfl (by first | exact Or.inl rfl | exact Or.inr rfl) (ah dn (hr.mono (by decide)) (aa (ah aA (hr.mono (by decide)) (aa (pv 0) (aa (pv 2) ag))) (aa (aM T.xB) ag))))
   (ai (aO (i:=4) qO.nd rfl (by first | exact Or.inl rfl | exact Or.inr rfl) (bA (qG rfl) (by rfl) T.vx xt (aa (pD kS (aM T.eI)) (aa (bA (uj rfl) (by rfl) T.xC Am (aa (pv 4) (aa (aM T.eI) ag))) ag))))
   (aj (ao (ah aF (hr.mono (by decide)) (aa (pv 0) (aa (dQ bG (hr.mono (by decide)) (aa (aE (pv 3) rfl) (aa (aE (pv 3) rfl) (aa (aT eh (aE (pv 3) rfl) (pv 4)) ag)))) (aa (aM T.cT) ag)))))))))))),?_⟩
  simp_arith [cW,cb,fM,hk,gd hk,yU,List.zip_cons_cons,List.zip_nil_left,↓eV (gd hk)];by_cases n1:Rd18.infinity k < aq k a
  ·rw [yb hk (.inl n1)] at q;simp only [n1,if_true];exact q H (aB.refl H)
  by_cases n2:Rd18.infinity k < aq k b
  ·rw [yb hk (.inr n2)] at q;simp only [n1,n2,if_true,if_false];exact q H (aB.refl H)
  rw [join_eq hk ha n1 n2] at q;simp only [n1,n2,if_false];by_cases h2:aq k b=Rd18.infinity k
  ·simp only [h2,if_true] at q ⊢;exact ⟨k,a,a9 k b,rfl,hk,q H (aB.refl H)⟩
  by_cases h1:aq k a=Rd18.infinity k
  ·simp only [h1,h2,Nat.lt_irrefl,if_true,if_false] at q ⊢;exact q H (aB.refl H)
  simp only [h1,h2,if_false] at q ⊢;refine gh hk fun x H1 s1 hx=>gh hk fun y H2 s2 hy=>Lm (w:=1) (by decide) hy (IK hk) ?_;obtain ⟨dx,hx⟩:=hx.of s2;generalize hB:Rd18.madeWhole 1 (a9 k b) (aS k (aq k b)) (bP k (aq k b))=B at *
  have ec:(if (if (4096:Int) < B then 4096 else B) > -4096 then (if (4096:Int) < B then 4096 else B) else -4096)=px B:=by
   unfold px Rd18.between;split <;> split <;> split <;> omega
  simp_arith [hx,cw,cx,bW,T.i8,T.uG,T.uH,T.uI,ec,↓cy hx T.i8 T.uG (cw _ _ _),↓cy hx T.i8 T.uH (cx _ _ _),↓cy hx T.i8 T.uI (bW _ _ _)];have hc:-4096≤px B∧px B≤4096:=by unfold px Rd18.between;split <;> (try split) <;> omega
  have fb:=qX (b:=a) hk;exact x8 rfl rfl rfl fun z H3 s3 hz=>eJ hk hz ⟨by omega,by omega,by omega⟩ (q _ ((s1.trans s2).trans s3))
end
noncomputable abbrev iT:Stmt:=inClass (top 76) 0
theorem sD:ay ["self","kind","numbers"] ["self","kind","numbers"] (ak iT):=⟨rfl,rfl,rfl,by decide +kernel,rfl,by decide +kernel,by decide +kernel⟩
noncomputable abbrev jo:Stmt:=inClass (top 77) 0
theorem tU:ay ["self"] ["self"] (ak jo):=⟨rfl,rfl,rfl,by decide +kernel,rfl,by decide +kernel,by decide +kernel⟩
noncomputable abbrev jH:Stmt:=top 78
theorem lq:ay ["numbers","c"] ["numbers"] (ak jH):=⟨rfl,rfl,rfl,by decide +kernel,rfl,by decide +kernel,by decide +kernel⟩
noncomputable abbrev gk:Stmt:=top 79
theorem dv:ay ["table","taken","make","columns","numbers","row","given","c","column"] ["table","taken","make"] (ak gk):=⟨rfl,rfl,rfl,by decide +kernel,rfl,by decide +kernel,by decide +kernel⟩
noncomputable abbrev ml:Stmt:=top 80
theorem gD:ay ["table","which","columns","c","old","row"] ["table","which"] (ak ml):=⟨rfl,rfl,rfl,by decide +kernel,rfl,by decide +kernel,by decide +kernel⟩
noncomputable abbrev g8:Stmt:=top 81
theorem jq:ay ["numbers","x"] ["numbers"] (ak g8):=⟨rfl,rfl,rfl,by decide +kernel,rfl,by decide +kernel,by decide +kernel⟩
noncomputable abbrev jI:Stmt:=top 82
theorem lu:ay ["numbers","x"] ["numbers"] (ak jI):=⟨rfl,rfl,rfl,by decide +kernel,rfl,by decide +kernel,by decide +kernel⟩
noncomputable abbrev yc:Stmt:=top 83
theorem Gh:ay ["mask","row"] ["mask","row"] (ak yc):=⟨rfl,rfl,rfl,by decide +kernel,rfl,by decide +kernel,by decide +kernel⟩
noncomputable abbrev uV:Stmt:=top 84
theorem oo:ay ["holds","mask","row","held"] ["holds"] (ak uV):=⟨rfl,rfl,rfl,by decide +kernel,rfl,by decide +kernel,by decide +kernel⟩
noncomputable abbrev fC (k:Int) (q:Addr):List (Str×V):=[("kind",.int k),("numbers",.ref q)]
noncomputable abbrev fT (r:Int) (d:Addr):List (Str×V):=[("rows",.int r),("columns",.ref d)]
theorem oq (k:Int) (q:Addr):(fC k q).lookup ("kind":Str)=some (V.int k):=by
 rw [List.lookup_cons,show (("kind":Str) == "kind")=true from by decide +kernel]
theorem lx (k:Int) (q:Addr):(fC k q).lookup ("numbers":Str)=some (V.ref q):=by
 rw [List.lookup_cons,show (("numbers":Str) == "kind")=false from by decide +kernel,List.lookup_cons,show (("numbers":Str) == "numbers")=true from by decide +kernel]
theorem wC (r:Int) (d:Addr):(fT r d).lookup ("rows":Str)=some (V.int r):=by
 rw [List.lookup_cons,show (("rows":Str) == "rows")=true from by decide +kernel]
theorem cA (r:Int) (d:Addr):(fT r d).lookup ("columns":Str)=some (V.ref d):=by
 rw [List.lookup_cons,show (("columns":Str) == "rows")=false from by decide +kernel,List.lookup_cons,show (("columns":Str) == "columns")=true from by decide +kernel]
theorem ES (r r':Int) (d:Addr):j6 "rows" (.int r') (fT r d)=fT r' d:=by
 simp only [j6,if_true]
theorem AJ (r:Int) (d d':Addr):j6 "columns" (.ref d') (fT r d)=fT r d':=by
 have n1:¬ (("rows":Str) = "columns"):=by decide +kernel
 simp only [j6,n1,if_false,if_true]
noncomputable abbrev cells (l:List Rd18.Cell):List V:=l.map d6
noncomputable def d7 (Z:cg) (H:Hp) (p:Addr) (x:Rd18.Column):Prop:=∃ dx q,H p=some (.ins Z.CC dx (fC x.kind q))∧H q=some (.lst (cells x.cells))
noncomputable def ot (Z:cg) (H:Hp):Option V→Option Rd18.Column→Prop
 | none,none=>True
 | some (.ref p),some x=>d7 Z H p x
 | _,_=>False
structure AK (n:Nat) (x:Rd18.Column):Prop where
 kind:x.kind≤8
 len:x.cells.length=n
 bits:∀ b,some b∈x.cells→Vk x.kind b
structure Nl (s:Rd18.Abs):Prop where
 len:s.cols.length=16
 rows:s.rows≤2048
 col:∀ (c:Nat) x,s.cols.getD c none=some x→AK s.rows x
structure ou (Z:cg) (H:Hp) (a8:List (Key×V)) (cols:List (Option Rd18.Column)):Prop where
 nd:(a8.map (·.1)).Nodup
 keys:∀ k∈a8.map (·.1),∃ c:Nat,c < 16∧k=Sum.inl (c:Int)
 val:∀ c:Nat,c < 16→ot Z H (fi a8 (Sum.inl (c:Int))) (cols.getD c none)
structure TabAt (Z:cg) (H:Hp) (t d:Addr) (s:Rd18.Abs):Prop where
 ob:∃ dx,H t=some (.ins Z.CT dx (fT s.rows d))
 dc:∃ a8,H d=some (.dK a8)∧ou Z H a8 s.cols
 wf:Nl s
noncomputable def Kp (H H':Hp):Prop:=∀ b o,H b=some o→((∃ xs,o=.lst xs)∨∃ u v,o=.jD u v)→H' b=some o
theorem aB.kp {H H':Hp} (s:aB H H'):Kp H H':=fun b o e _=>s b o e
theorem Kp.trans {H H1 H2:Hp} (a:Kp H H1) (b:Kp H1 H2):Kp H H2:=fun c o e h=>b c o (a c o e h) h
theorem d7.of {Z:cg} {H H':Hp} {p:Addr} {x:Rd18.Column} (h:d7 Z H p x) (s:∀ b o,H b=some o→(∃ xs,o=.lst xs)∨(∃ C dx fs,o=.ins C dx fs∧fs.length=2∧(fs.lookup ("kind":Str)).isSome=true)→H' b=some o):d7 Z H' p x:=by
 obtain ⟨dx,q,h1,h2⟩:=h;refine ⟨dx,q,s _ _ h1 (.inr ⟨_,_,_,rfl,rfl,?_⟩),s _ _ h2 (.inl ⟨_,rfl⟩)⟩;rw [oq];rfl
theorem d7.same {Z:cg} {H H':Hp} {p:Addr} {x:Rd18.Column} (h:d7 Z H p x) (s:aB H H'):d7 Z H' p x:=h.of fun b o e _=>s b o e
theorem ot.of {Z:cg} {H H':Hp} {v:Option V} {x:Option Rd18.Column} (h:ot Z H v x) (s:∀ p y,d7 Z H p y→d7 Z H' p y):ot Z H' v x:=by
 match v,x,h with
 | none,none,_=>trivial
 | some (.ref p),some x,h=>exact s p x h
theorem ou.of {Z:cg} {H H':Hp} {a8:List (Key×V)} {cols:List (Option Rd18.Column)} (h:ou Z H a8 cols) (s:∀ p y,d7 Z H p y→d7 Z H' p y):ou Z H' a8 cols :=
 ⟨h.nd,h.keys,fun c hc=>(h.val c hc).of s⟩
theorem TabAt.same {Z:cg} {H H':Hp} {t d:Addr} {s:Rd18.Abs} (h:TabAt Z H t d s) (sm:aB H H'):TabAt Z H' t d s:=by
 obtain ⟨⟨dx,h1⟩,⟨a8,h2,h3⟩,h4⟩:=h;exact ⟨⟨dx,sm _ _ h1⟩,⟨a8,sm _ _ h2,h3.of fun p y q=>q.same sm⟩,h4⟩
section
variable {P:Program} {w:World} {K:PySem.W.Frag} {mg:Str→Option Value} {base:Heap} {f:Addr} {fd:FuncData} {Z:cg} {H:Hp} {Q:VK} {E:XK} {CF:Addr}
theorem Gi (T:Ty K mg Z) (hm:mg "Column"=some (.ref Z.CC)) (M:Mk K Z.CC f) (F:F0 K "__init__" "Column.__init__" iT f fd) (hb:Binds K fd ["self","kind","numbers"] []):lO P w K mg base 1 "Column" Z.CC ["kind","numbers"]:=by
 refine ⟨f,fd,hm,M,hb,F.ok (k:=0) sD (fun vs H Q E h=>?_) (fun bJ A outer s H vs Q E hr h=>?_)⟩
 ·obtain ⟨p,dx,ws,rfl,hl,_⟩:=h;show ws.length+1=3;rw [hl];rfl
 ·obtain ⟨p,dx,ws,rfl,hl,hp,q⟩:=h;obtain ⟨v1,v2,rfl⟩:=Vj hl;refine ⟨_,(ai (kU (pv 0) (pv 1) rfl)
   (aj (kU (pv 0) (pv 2) rfl))),?_⟩
  simp_arith [J2,hp,au,jE,T.DG,T.Ca,T.DH];have n1:¬ (("kind":Str) = "numbers"):=by decide +kernel
  simp only [j6,n1,if_false,List.length_cons,List.length_nil];exact ⟨by decide,by decide,q _ au fun b hb=>aH hb⟩
noncomputable abbrev rF (Z:cg):Sp:=fun vs H Q _=>∃ (p dx:Addr),vs=[.ref p]∧H p=some (.ins Z.CT dx [])∧∀ (d:Addr) (H':Hp),H d=none→H' p=some (.ins Z.CT dx (fT 0 d))→H' d=some (.dK [])→(∀ b o,H b=some o→b≠p→H' b=some o)→Q .dR H'
theorem y4 (T:Ty K mg Z) (F:F0 K "__init__" "Table.__init__" jo f fd):qV P w K mg base Bc 1 f fd ["self"] (rF Z):=by
 refine F.ok (k:=0) tU (fun vs H Q E h=>?_) (fun bJ A outer s H vs Q E hr h=>?_)
 ·obtain ⟨p,dx,rfl,_⟩:=h;rfl
 ·obtain ⟨p,dx,rfl,hp,q⟩:=h;refine ⟨_,(ai (kU (pv 0) ar rfl)
   (aj (kU (pv 0) xm rfl))),?_⟩
  simp_arith [J2,hp,au,jE,T.ud,T.AF,T.nN,HR];refine ⟨by decide,fun d hd=>?_⟩;have Jy:p≠d:=by
   intro e;subst e;rw [au] at hd;cases hd
  have Lk:H d=none:=by rw [aH Jy.symm] at hd;exact hd
  have n1:¬ (("rows":Str) = "columns"):=by decide +kernel
  simp only [aH Jy,au,HO.ins.injEq,exists_eq_left',exists_eq_left,and_assoc,exists_and_left,T.ud,T.AF,T.nN,true_and,j6,n1,if_false,Option.some.injEq,List.length_cons,List.length_nil];refine ⟨by decide,q d _ Lk au ?_ fun b o e hb=>?_⟩
  ·rw [aH Jy.symm,au]
  ·rw [aH hb,aH (bf e Lk),aH hb];exact e
noncomputable abbrev bH (_:cg) (K:PySem.W.Frag):Sp:=fun vs H Q _=>∃ (a:Addr) (ns:List Int),vs=[.ref a]∧bU K H a (ns.map V.int)∧ns.length≤100∧∀ H',aB H H'→Q (.bl (ns.all fun c=>decide (0≤c∧c≤15))) H'
theorem b8 {n:Nat} (h:n≤10000):n≤sizeLine:=Nat.le_trans h (by decide)
theorem eE {α:Type} {g:α→V} {l:List α} {i:Nat} {x:V} (h:(l.map g)[i]?=some x):∃ y,l[i]?=some y∧x=g y:=by
 rw [List.getElem?_map] at h;cases e:l[i]? with
 | none=>rw [e] at h;cases h
 | some y=>rw [e] at h;exact ⟨y,rfl,(Option.some.inj h).symm⟩
noncomputable def KJ:V→V
 | .int c=>.bl (decide (0≤c∧c≤15))
 | v=>v
theorem yd (T:Ty K mg Z)  (D:aX K mg "are_columns" jH ["numbers"] f fd):ae P w K mg base 1 "are_columns" ["numbers"] (bH Z K):=by
 refine ae.of D lq (fun vs H Q E h=>?_) (fun bJ A outer s H vs Q E hr h=>?_)
 ·obtain ⟨a,ns,rfl,_⟩:=h;rfl
 ·obtain ⟨a,ns,rfl,hS,hl,q⟩:=h;refine ⟨_,(aj (ao (bA (Ae rfl) (by rfl) T.xD An (aa (nz (own:=[("c",1)]) rfl lq.nd (dA (pv 0)) (cq (N:=["numbers","c"]) (sc:=ak jH) (by decide +kernel)) (fun _ _ _ _ _=>(bZ (i:=1) lq.nd rfl (by first | exact Or.inl rfl | exact Or.inr rfl))) (by intro _ _ _ _ _;exact eA) (by intro _ _ _ _ _;exact (kT gK gK ar (pv 1) (aM T.gW)))) ag)))),?_⟩;refine ⟨_,rfl,a,rfl,⟨_,hS⟩,fun D hD=>d5 (fun v=>some (KJ v)) hS hD (b8 (by rw [List.length_map];omega)) (fun i x H2 R R0 hx s2 hR h0=>?_) fun H2 s2 rP=>?_⟩
  ·obtain ⟨c,_,rfl⟩:=eE hx;refine ⟨rfl,?_⟩;have kP:=hR _ H2 (aB.refl _) rfl;simp_arith [Mm,wipe];by_cases hc:0≤c
   ·simpa [hc,KJ] using kP
   ·simpa [hc,KJ] using kP
  ·refine ⟨D,ns.map fun c=>decide (0≤c∧c≤15),rfl,?_,?_⟩
   ·have e:(ns.map V.int).filterMap (fun v=>some (KJ v))=(ns.map fun c=>decide (0≤c∧c≤15)).map V.bl:=by
     rw [List.filterMap_eq_map',List.map_map,List.map_map];rfl
    rw [e] at rP;exact bU.of rP
   ·have e2:((ns.map fun c=>decide (0≤c∧c≤15)).all id)=ns.all fun c=>decide (0≤c∧c≤15):=by rw [List.all_map];rfl
    rw [e2];exact q H2 s2
end
end NK
namespace L2
open PySem PySem.Spec PyProof.Rows
section
variable {X:Cx}
theorem jJ {K:PySem.W.Frag} {a:Expr} {ta:TE} {f:Str} {pos:Pos} (hK:X.K=K) (ha:PE X a ta) (hb:attributeBase a f X.env (eval a X.env)=eval a X.env):PE X (.Attribute a f pos) (tFld K ta f):=by
 subst hK;exact aE ha hb
theorem tV {K:PySem.W.Frag} (hK:X.K=K):Pg X (Mc K):=by
 subst hK;exact aU
theorem Ce:NS X (fun o i H Q=>∃ p xs j v,o=.ref p∧i=.int ((j:Nat):Int)∧bU X.K H p xs∧xs[j]?=some v∧Q v H):=by
 intro pins s σ H o i ov iv Q I ro ri h;obtain ⟨p,xs,j,v,rfl,rfl,hq,he,q⟩:=h;cases ro;obtain ⟨t,rfl⟩:=ri;obtain ⟨its,r,pl,hz⟩:=I.list hq;obtain ⟨w,ew,FI⟩:=r.get he;have hl:=r.length;have hj:j < xs.length:=(List.getElem?_eq_some_iff.mp he).1;have hn:=sizeLine_eq;refine wpAny_getItem_list (x:=w) pl.isList (by omega) ?_ (by simpa using ew) ⟨v,H,I,FI,q⟩;have:(j:Int) < 2 ^ 24:=by
  have h1:xs.length≤2 ^ 24:=hz;omega
 omega
end
end L2
namespace NK
open PySem L2
section
variable {P:Program} {w:World} {K:PySem.W.Frag} {mg:Str→Option Value} {base:Heap} {f:Addr} {fd:FuncData} {Z:cg} {H:Hp} {Q:VK} {E:XK} {CF:Addr}
theorem rG:∀ l:List Rd18.Cell,((cells l).filterMap fun v=>if v=V.dR then some v else none).length=Rd18.missing l
 | []=>rfl
 | c::r=>by
  have ih:=rG r;cases c with
  | none=>simpa [cells,Rd18.missing,d6,List.filterMap_map] using ih
  | some b=>simpa [cells,Rd18.missing,d6,List.filterMap_map] using ih
theorem vz:∀ l:List Rd18.Cell,((cells l).filterMap fun v=>if v=V.dR then none else some v)=(l.filterMap id).map fun (b:Nat)=>V.int b
 | []=>rfl
 | c::r=>by
  have ih:=vz r;cases c with
  | none=>simpa [cells,d6,List.filterMap_map] using ih
  | some b=>simpa [cells,d6,List.filterMap_map] using ih
noncomputable abbrev eL (_:cg) (K:PySem.W.Frag):Sp:=fun vs H Q _=>∃ (a:Addr) (l:List Rd18.Cell),vs=[.ref a]∧bU K H a (cells l)∧l.length≤4000∧pX (Rd18.missing l) H Q
theorem uW (T:Ty K mg Z)  (D:aX K mg "count_missing" g8 ["numbers"] f fd):ae P w K mg base 1 "count_missing" ["numbers"] (eL Z K):=by
 refine ae.of D jq (fun vs H Q E h=>?_) (fun bJ A outer s H vs Q E hr h=>?_)
 ·obtain ⟨a,l,rfl,_⟩:=h;rfl
 ·obtain ⟨a,l,rfl,hS,hl,q⟩:=h;refine ⟨_,(aj (ao (bA b9 (by rfl) T.kz jh (aa (nz (own:=[("x",1)]) rfl jq.nd (dA (pv 0)) (cq (N:=["numbers","x"]) (sc:=ak g8) (by decide +kernel)) (fun _ _ _ _ _=>(bZ (i:=1) jq.nd rfl (by first | exact Or.inl rfl | exact Or.inr rfl))) (by intro _ _ _ _ _;exact (tz (aG Hv (pv 1) n8 (aJ _)))) (by intro _ _ _ _ _;exact (pv 1))) ag)))),?_⟩;refine ⟨_,rfl,a,rfl,⟨_,hS⟩,fun D hD=>d5 (fun v=>if v=V.dR then some v else none) hS hD (b8 (by rw [List.length_map];omega)) (fun i x H2 R R0 hx s2 hR h0=>?_) fun H2 s2 rP=>?_⟩
  ·refine ⟨rfl,?_⟩;simp_arith [wipe];by_cases hc:x=V.dR
   ·simp only [hc,decide_true,if_true];exact hR _ H2 (aB.refl _) (by rw [hc];rfl)
   ·simp only [hc,decide_false,Bool.false_eq_true,if_false];exact h0 (by rw [if_neg hc]) H2 (aB.refl _)
  ·refine ⟨D,_,rfl,.inl (bU.of rP),?_⟩;rw [rG];exact q H2 s2
noncomputable abbrev iU (_:cg) (K:PySem.W.Frag):Sp:=fun vs H Q _=>∃ (a:Addr) (l:List Rd18.Cell),vs=[.ref a]∧bU K H a (cells l)∧l.length≤4000∧∀ r H',aB H H'→H r=none→H' r=some (.lst ((l.filterMap id).map fun (b:Nat)=>V.int b))→Q (.ref r) H'
theorem ye (T:Ty K mg Z)  (D:aX K mg "not_missing" jI ["numbers"] f fd):ae P w K mg base 1 "not_missing" ["numbers"] (iU Z K):=by
 refine ae.of D lu (fun vs H Q E h=>?_) (fun bJ A outer s H vs Q E hr h=>?_)
 ·obtain ⟨a,l,rfl,_⟩:=h;rfl
 ·obtain ⟨a,l,rfl,hS,hl,q⟩:=h;refine ⟨_,(aj (ao (nz (own:=[("x",1)]) rfl lu.nd (dA (pv 0)) (cq (N:=["numbers","x"]) (sc:=ak jI) (by decide +kernel)) (fun _ _ _ _ _=>(bZ (i:=1) lu.nd rfl (by first | exact Or.inl rfl | exact Or.inr rfl))) (by intro _ _ _ _ _;exact (tz (aG Ex (pv 1) n8 (aJ _)))) (by intro _ _ _ _ _;exact (pv 1))))),?_⟩;refine ⟨_,rfl,a,rfl,⟨_,hS⟩,fun D hD=>d5 (fun v=>if v=V.dR then none else some v) hS hD (b8 (by rw [List.length_map];omega)) (fun i x H2 R R0 hx s2 hR h0=>?_) fun H2 s2 rP=>?_⟩
  ·refine ⟨rfl,?_⟩;simp_arith [wipe];by_cases hc:x=V.dR
   ·simp only [hc,decide_true,Bool.not_true,Bool.false_eq_true,if_false];exact h0 (by rw [if_pos hc]) H2 (aB.refl _)
   ·simp only [hc,decide_false,Bool.not_false,if_true];exact hR _ H2 (aB.refl _) (by rw [if_neg hc])
  ·rw [vz] at rP;exact q D H2 s2 hD rP
noncomputable abbrev aZ (l:List Nat):List V:=l.map fun (b:Nat)=>V.int b
noncomputable abbrev qP (_:cg) (K:PySem.W.Frag):Sp:=fun vs H Q _=>∃ (a:Addr) (m:List Nat) (row:Nat),vs=[.ref a,.int row]∧bU K H a (aZ m)∧row / 8 < m.length∧Q (.bl (Rd18.bit m row)) H
theorem aI {xs:List V} {j:Nat} {v:V} (h:xs[j]?=some v):Cz xs (j:Int)=some v:=by
 have hj:j < xs.length:=(List.getElem?_eq_some_iff.mp h).1;unfold Cz Lb;rw [if_pos (by omega),if_pos (by omega)];simpa using h
theorem Gj (T:Ty K mg Z)  (D:aX K mg "is_set" yc ["mask","row"] f fd):ae P w K mg base 1 "is_set" ["mask","row"] (qP Z K):=by
 refine ae.of D Gh (fun vs H Q E h=>?_) (fun bJ A outer s H vs Q E hr h=>?_)
 ·obtain ⟨a,m,row,rfl,_⟩:=h;rfl
 ·obtain ⟨a,m,row,rfl,hS,Ox,q⟩:=h;refine ⟨_,(aj (ao (dM bD (aT hY (aT z6 (bu aU (pv 0) (aT tF (pv 1) ar) (fun _ _=>rfl)) (aT hY (pv 1) ar)) ar) ar (aJ _)))),?_⟩;have cd:B3 (row:Int) 8:=⟨by decide,by decide⟩;have e8:(row:Int) / 8=((row / 8:Nat):Int):=by omega
  have e9:(row:Int) % 8=((row % 8:Nat):Int):=by omega
  have p8:(0:Int) < 8:=by decide
  have p2:(0:Int) < 2:=by decide
  have pr:(0:Int)≤((row % 8:Nat):Int):=by omega
  have hm:(aZ m)[row / 8]?=some (V.int ((m.getD (row / 8) 0:Nat):Int)):=by
   rw [List.getElem?_map,List.getElem?_eq_getElem Ox];simp [List.getD,Ox]
  simp_arith [cd,e8,e9,p8,p2,Mc];refine ⟨aZ m,hS,_,aI hm,_,rfl,pr,?_⟩;rw [Int.toNat_natCast,wG];have em:(((m.getD (row / 8) 0 / 2 ^ (row % 8):Nat):Int) % 2=1)=(m.getD (row / 8) 0 / 2 ^ (row % 8) % 2=1):=by apply propext;omega
  rw [LJ] at q;simpa only [em] using q
noncomputable abbrev sE (_:cg) (K:PySem.W.Frag):Sp:=fun vs H Q _=>∃ (a:Addr) (bs:List Bool),vs=[.ref a]∧bU K H a (bs.map V.bl)∧bs.length≤4000∧∀ r H',aB H H'→H r=none→H' r=some (.lst (aZ (Rd18.maskOf bs.length fun i=>bs.getD i false)))→Q (.ref r) H'
theorem IL (n:Nat):(List.replicate n [V.int 0]).flatten=aZ (List.replicate n 0):=by
 induction n with
 | zero=>rfl
 | succ n ih=>rw [List.replicate_succ,List.flatten_cons,ih,List.replicate_succ];rfl
theorem zJ (l:List Nat) (j v:Nat):(aZ l).set j (V.int v)=aZ (l.set j v):=by
 unfold aZ;rw [List.map_set]
theorem DM (T:Ty K mg Z)  (D:aX K mg "mask_of" uV ["holds"] f fd):ae P w K mg base 1 "mask_of" ["holds"] (sE Z K):=by
 refine ae.of D oo (fun vs H Q E h=>?_) (fun bJ A outer s H vs Q E hr h=>?_)
 ·obtain ⟨a,bs,rfl,_⟩:=h;rfl
 ·obtain ⟨a,bs,rfl,hS,hl,q⟩:=h;refine ⟨_,(ai (aO (i:=1) oo.nd rfl (by first | exact Or.inl rfl | exact Or.inr rfl) (aT HI (aP (aa ar ag)) (aT tF (aT eh (bA b9 (by rfl) T.kz jh (aa (pv 0) ag)) ar) ar)))
   (ai (w9 PassesOwn.never rfl (EK (by rfl) T.jZ (aa (pv 0) ag)) (Hl rfl (tp (bZ (i:=2) oo.nd rfl (by first | exact Or.inl rfl | exact Or.inr rfl)) (tp (bZ (i:=3) oo.nd rfl (by first | exact Or.inl rfl | exact Or.inr rfl)) Eo))) (aj (aR (aN (pv 3)) (aj (Ep (pv 1) (aT tF (pv 2) ar) Ce (aT d4 ar (aT hY (pv 2) ar)) Hm set_list)) aw)))
   (aj (ao (pv 1))))),?_⟩
  have cd:B3 ((bs.length:Int)+7) 8:=⟨by decide,by decide⟩;have e8:((bs.length:Int)+7) / 8=(((bs.length+7) / 8:Nat):Int):=by omega
  refine ⟨by decide,fun p0 DN=>?_⟩;have s0:aB H (upd H p0 (.lst [.int 0])):=ax (fun _ _ e=>e) DN;refine ⟨_,rfl,a,_,rfl,.inl (s0.seq hS),_,_,rfl,rfl,_,_,rfl,rfl,⟨by decide,by decide⟩,?_⟩;refine ⟨p0,(((bs.length+7) / 8:Nat):Int),_,rfl,congrArg V.int (by rw [List.length_map];exact e8),au,by omega,by omega,?_,fun M hM=>?_⟩
  ·rw [Int.toNat_natCast];exact b8 (by simp;omega)
  rw [Int.toNat_natCast,IL];have MR:H M=none:=s0.free hM;have s1:aB H (upd (upd H p0 (.lst [.int 0])) M (.lst (aZ (List.replicate ((bs.length+7) / 8) 0)))):=ax s0 MR;refine ⟨_,rfl,a,_,rfl,s1.seq hS,Iz (K:=K) (a:=a) (xs:=bs.map V.bl) (fun i σ H2=>∃ u v,σ=[some (.ref a),some (.ref M),u,v]∧aB H H2∧H2 M=some (.lst (aZ (dO ((bs.length+7) / 8) i fun i=>bs.getD i false))))
   ⟨none,none,rfl,s1,by rw [au,Bn]⟩ (fun i σ H2 _ ⟨_,_,_,s2,_⟩=>s2.seq hS) (fun i x Tt σ H2 hx hp hT=>?_) fun σ H2 hp=>?_⟩
  ·obtain ⟨u,v,rfl,s2,hm⟩:=hp;obtain ⟨b,hb,rfl⟩:=eE hx;rw [List.getElem?_eq_some_iff] at hb;obtain ⟨hi,hb⟩:=hb;have Nk:bs.getD i false=b:=by simp [List.getD,hi,hb]
   have Vm:M≠Tt:=bf hm hT;have s3:aB H (upd H2 Tt (.tup [.int ((i:Nat):Int),.bl b])):=ax s2 (s2.free hT);have Oy:(upd H2 Tt (.tup [.int ((i:Nat):Int),.bl b])) M=some (.lst (aZ (dO ((bs.length+7) / 8) i fun i=>bs.getD i false))):=by rw [aH Vm];exact hm
   refine ⟨Tt,_,rfl,vi.of au,rfl,_,_,rfl,_,_,rfl,rfl,?_⟩;have Vn:B3 (i:Int) 8:=⟨by decide,by decide⟩;have f8:(i:Int) / 8=((i / 8:Nat):Int):=by omega
   have f9:(i:Int) % 8=((i % 8:Nat):Int):=by omega
   cases b with
   | false =>
    refine ⟨_,rfl,_,rfl,ux ?_⟩;exact ⟨_,_,rfl,s3,by rw [Fl Nk];exact Oy⟩
   | true =>
    refine ⟨_,rfl,_,rfl,eO ?_⟩;have SM:i / 8 < (bs.length+7) / 8:=by omega
    have hg:=CO (i:=i) (fun i=>bs.getD i false) SM;have Rl:(aZ (dO ((bs.length+7) / 8) i fun i=>bs.getD i false))[i / 8]?=some (V.int (j5 i (fun i=>bs.getD i false) (i / 8):Nat)):=by rw [List.getElem?_map,hg];rfl
    refine ⟨_,rfl,_,rfl,_,_,rfl,rfl,Vn,M,_,i / 8,_,rfl,congrArg V.int f8,bU.of Oy,Rl,_,rfl,_,_,rfl,rfl,by show (0:Int) < 8;decide,?_⟩;refine ⟨1,((i % 8:Nat):Int),rfl,congrArg V.int f9,iP (by omega) (by omega),_,_,rfl,rfl,M,_,_,i / 8,rfl,rfl,Oy,?_,?_⟩
    ·rw [f8];unfold Lb;rw [if_pos (by omega),if_pos (by rw [List.length_map,gb];omega),Int.toNat_natCast]
    ·refine ⟨_,_,rfl,ax s3 MR,?_⟩;rw [au,Int.toNat_natCast,Int.one_mul,cD];dsimp only;rw [← Int.natCast_add,zJ,CP Nk SM]
  ·obtain ⟨u,v,rfl,s2,hm⟩:=hp;rw [List.length_map,eP] at hm;exact ⟨_,rfl,q M H2 s2 MR hm⟩
end
end NK
namespace L2
open PySem PySem.Spec PyProof.Rows
theorem yf {K:PySem.W.Frag} {a:Addr} {xs:List V} {g:TG} {tt:TT} {te:TE} {vs:List Nat} {σ:St} {H1:Hp} {D:Addr} {Qd:Hp→Prop} (p:Nat→V) (hl:bU K H1 a xs) (hD:H1 D=none) (hz:xs.length≤sizeLine)
  (hs:∀ (i:Nat) x H (R:V→Hp→Prop) (R0:Hp→Prop),xs[i]?=some x→aB H1 H→(∀ y H4,aB H H4→y=p i→R y H4) →
   g x (wipe σ vs) H fun gy H2=>wipe gy vs=wipe σ vs∧tt gy H2 fun b H3=>if b=true then te gy H3 R else R0 H3)
  (hd:∀ H2,aB H1 H2→H2 D=some (.lst ((List.range xs.length).map p))→Qd H2) :
  ∃ W:Nat→Nat→Hp→Prop,(∃ m,W 0 m (upd H1 D (.lst [])))∧∀ i m H,W i m H →
   ((Es K a).stop i H∧Qd H)∨((Es K a).go i H∧∃ Nx:Hp→Prop,(∀ H',Nx H'→∃ m',m' < m∧W (i+1) m' H')∧∀ x H',(Es K a).Fq i H x H'→g x (wipe σ vs) H' fun gy H2=>wipe gy vs=wipe σ vs∧tt gy H2 fun b H3 =>
    if b=true then te gy H3 fun y H4=>∃ acc,H4 D=some (.lst acc)∧acc.length < sizeLine∧Nx (upd H4 D (.lst (acc++[y]))) else Nx H3):=by
 refine EI (K:=K) (a:=a) (xs:=xs) (fun i H=>aB H1 H∧H D=some (.lst ((List.range i).map p))) ⟨ax (fun _ _ e=>e) hD,by rw [au];rfl⟩ (fun i H _ h=>h.1.seq hl) (fun i x H hx h=>?_) fun H h=>hd H h.1 h.2;have hi:i < xs.length:=(List.getElem?_eq_some_iff.mp hx).1;refine hs i x H _ _ hx h.1 fun y H4 s4 ep=>⟨_,s4 D _ h.2,?_,?_,?_⟩
 ·rw [List.length_map,List.length_range];omega
 ·exact ax (fun b o e=>s4 b o (h.1 b o e)) hD
 ·rw [au,List.range_succ,List.map_append,ep];rfl
section
variable {P:Program} {w:World} {K:PySem.W.Frag} {mg:Str→Option Value} {base:Heap}
theorem F0.Vo {x qual:Str} {st:Stmt} {f:Addr} {fd:FuncData} {N ps:List Str} {k j:Nat} {sp:Sp→Sp} (F:F0 K x qual st f fd) (S:ay N ps (ak st)) (len:∀ ls vs H Q E,sp ls vs H Q E→vs.length=ps.length)
  (jR:∀ (ls:Sp) (fl:Addr) (bJ:Value) (A:Around) (outer:List Env) (s:Shared) (H:Hp) (vs:List V) (Q:VK) (E:XK),eu k (A.deeper (envOfC qual (ak st) s.heap.objs.size f bJ))→xo P w K mg base Bc j fl ls s H→vs.getLast?=some (.ref fl)→sp ls vs H Q E →
   ∃ t,Br (uo Bc P w K mg base N qual (ak st) f bJ A outer s H E).JV (gZ st) t∧t { nx:=fun _ H'=>Q .dR H',rt:=Q } (start N vs) H):BZ P w K mg base Bc (k+1) j f fd ps sp:=by
 obtain ⟨oc,od,kV,doc,pm,an,bJ,ct,FA,rfl,lk,nW⟩:=F.ex;refine Mu lk nW S len fun ls fl A outer s H vs Q E hr hL B0 Cw=>?_;obtain ⟨t,h,q⟩:=jR ls fl bJ A outer s H vs Q E hr hL B0 Cw;exact ⟨t,h.JV,q⟩
end
end L2
namespace NK
open PySem L2
noncomputable def bx:List (List Rd18.Cell)→Nat→Option (List Nat)
 | [],_=>some []
 | l::r,i=>(l.getD i none).bind fun b=>(bx r i).map fun bs=>b::bs
noncomputable def DO (ls:List (List Rd18.Cell)) (i:Nat):List V:=ls.map fun l=>d6 (l.getD i none)
theorem zK:∀ {ls:List (List Rd18.Cell)} {i:Nat} {bs:List Nat},bx ls i=some bs→DO ls i=aZ bs
 | [],_,_,h=>by cases h;rfl
 | l::r,i,bs,h=>by
  unfold bx at h;cases hc:l.getD i none with
  | none=>rw [hc] at h;cases h
  | some b =>
   rw [hc] at h;have h:(bx r i).map (fun bs=>b::bs)=some bs:=h;cases hr:bx r i with
   | none=>rw [hr] at h;cases h
   | some cs =>
    rw [hr] at h;obtain rfl:b::cs=bs:=Option.some.inj h;show d6 (l.getD i none)::DO r i=_;rw [hc,zK hr];rfl
theorem ET:∀ (ls:List (List Rd18.Cell)) (i:Nat),FJ .dR (DO ls i)=(bx ls i).isNone
 | [],_=>rfl
 | l::r,i=>by
  have ih:=ET r i;unfold FJ at *
  show (HE (d6 (l.getD i none)) .dR || (DO r i).any fun y=>HE y .dR)=_;rw [ih];have e:bx (l::r) i=(l.getD i none).bind fun b=>(bx r i).map fun bs=>b::bs:=rfl;rw [e];cases hc:l.getD i none with
  | none=>rfl
  | some b =>
   show (false || (bx r i).isNone)=((bx r i).map fun bs=>b::bs).isNone;rw [Bool.false_or];cases bx r i <;> rfl
theorem Gk (ls:List (List Rd18.Cell)) (i:Nat):(DO ls i).all pF=true:=by
 rw [List.all_eq_true];intro v hv;obtain ⟨l,_,rfl⟩:=List.mem_map.mp hv;cases l.getD i none <;> rfl
noncomputable def iz (ls:List (List Rd18.Cell)) (res:List Nat→V) (i:Nat):V:=match bx ls i with
 | none=>.dR
 | some bs=>res bs
noncomputable abbrev cellsOf (xs:List Rd18.Column):List (List Rd18.Cell):=xs.map fun x=>x.cells
theorem Gm (qs:List Addr):(List.range qs.length).map (fun i=>V.ref (qs.getD i 0))=qs.map V.ref:=by
 conv=>rhs;rw [gc qs 0]
 rw [List.map_map];rfl
section
variable {P:Program} {w:World} {K:PySem.W.Frag} {mg:Str→Option Value} {base:Heap} {f:Addr} {fd:FuncData} {Z:cg} {H:Hp} {Q:VK} {E:XK} {CF:Addr}
theorem ou.get {a8:List (Key×V)} {cols:List (Option Rd18.Column)} {c:Nat} {x:Rd18.Column} (h:ou Z H a8 cols) (hc:c < 16) (hx:cols.getD c none=some x):∃ p,fi a8 (Sum.inl (c:Int))=some (.ref p)∧d7 Z H p x:=by
 have hv:=h.val c hc;rw [hx] at hv
 match e:fi a8 (Sum.inl (c:Int)),hv with
 | some (.ref p),hv=>exact ⟨p,rfl,hv⟩
theorem ou.no {a8:List (Key×V)} {cols:List (Option Rd18.Column)} {c:Nat} (h:ou Z H a8 cols) (hc:c < 16) (hx:cols.getD c none=none):fi a8 (Sum.inl (c:Int))=none:=by
 have hv:=h.val c hc;rw [hx] at hv
 match e:fi a8 (Sum.inl (c:Int)),hv with
 | none,_=>rfl
theorem zL {a8:List (Key×V)} {cols:List (Option Rd18.Column)} (h:ou Z H a8 cols):∀ (cs:List Nat) (xs:List Rd18.Column),(∀ c∈cs,c < 16)→cs.map (fun c=>cols.getD c none)=xs.map some →
  ∃ qs:List Addr,qs.length=cs.length∧xs.length=cs.length∧∀ (i:Nat) c,cs[i]?=some c→∃ p dx q x,qs[i]?=some q∧xs[i]?=some x∧fi a8 (Sum.inl (c:Int))=some (.ref p)∧H p=some (.ins Z.CC dx (fC x.kind q))∧H q=some (.lst (cells x.cells))
 | [],xs,_,e=>by
  cases xs with
  | nil=>exact ⟨[],rfl,rfl,fun i c h=>by simp at h⟩
  | cons x r=>cases e
 | c::r,xs,hc,e=>by
  cases xs with
  | nil=>cases e
  | cons x ys =>
   rw [List.map_cons,List.map_cons,List.cons.injEq] at e;obtain ⟨qs,h1,h2,h3⟩:=zL h r ys (fun c Bb=>hc c (List.mem_cons_of_mem _ Bb)) e.2;obtain ⟨p,hv,dx,q,a1,a2⟩:=h.get (hc c List.mem_cons_self) e.1;refine ⟨q::qs,by simp [h1],by simp [h2],fun i c' hi=>?_⟩;cases i with
   | zero =>
    obtain rfl:c=c':=Option.some.inj hi;exact ⟨p,dx,q,x,rfl,rfl,hv,a1,a2⟩
   | succ i=>exact h3 i c' hi
noncomputable abbrev AL (Z:cg) (K:PySem.W.Frag) (ls:Sp):Sp:=fun vs H Q _=>∃ (t d a fl:Addr) (s:Rd18.Abs) (cs:List Nat) (xs:List Rd18.Column) (res:List Nat→V),vs=[.ref t,.ref a,.ref fl]∧TabAt Z H t d s∧bU K H a (aZ cs)∧cs.length≤3∧(∀ c∈cs,c < 16) ∧
 cs.map (fun c=>s.cols.getD c none)=xs.map some ∧
 (∀ (i:Nat) (bs:List Nat) (H1:Hp) (g:Addr) (Q':VK),i < s.rows→bx (cellsOf xs) i=some bs→aB H H1→H1 g=some (.lst (aZ bs))→(∀ H2,aB H1 H2→Q' (res bs) H2)→ls [.ref g] H1 Q' E0) ∧
 ∀ r H',aB H H'→H r=none→H' r=some (.lst ((List.range s.rows).map (iz (cellsOf xs) res)))→Q (.ref r) H'
theorem vO (T:Ty K mg Z) (F:F0 K "made_of_rows" "made_of_rows" gk f fd):BZ P w K mg base Bc 15 13 f fd ["table","taken","make"] (AL Z K):=by
 refine F.Vo (k:=14) dv (fun ls vs H Q E h=>?_) (fun ls Po bJ A outer s H vs Q E hr L B0 h=>?_)
 ·obtain ⟨t,d,a,fl,s,cs,xs,res,rfl,_⟩:=h;rfl
 ·obtain ⟨t,d,a,fl,s,cs,xs,res,rfl,tb,hS,BO,sF,Pr,Kl,q⟩:=h;obtain rfl:fl=Po:=by
   have:(some (V.ref fl):Option V)=some (.ref Po):=B0;injection this with e;injection e
  refine ⟨_,(ai (jT (i:=3) (own:=[("c",7)]) rfl dv.nd rfl rfl (l8 rfl rfl (by rfl) (by rfl)) (dA (pv 1)) (cq (N:=["table","taken","make","columns","numbers","row","given","c","column"]) (sc:=ak gk) (by decide +kernel)) (fun _ _ _ _ _=>(bZ (i:=7) dv.nd rfl (by first | exact Or.inl rfl | exact Or.inr rfl))) (by intro _ _ _ _ _;exact eA) (by intro _ _ _ _ _;exact (jJ (K:=K) rfl (cu (cQ hr) (jJ (K:=K) rfl (pv 0) rfl) (pv 7) (fun _ _=>rfl)) rfl)))
   (ai (aO (i:=4) dv.nd rfl (by first | exact Or.inl rfl | exact Or.inr rfl) (aP ag))
   (ai (w9 PassesOwn.never rfl (qF (by rfl) T.oh (aa (aE (pv 0) rfl) ag)) (bZ (i:=5) dv.nd rfl (by first | exact Or.inl rfl | exact Or.inr rfl)) (ai (jT (i:=6) (own:=[("column",8)]) rfl dv.nd rfl rfl (l8 rfl rfl (by rfl) (by rfl)) (dA (pv 3)) (cq (N:=["table","taken","make","columns","numbers","row","given","c","column"]) (sc:=ak gk) (by decide +kernel)) (fun _ _ _ _ _=>(bZ (i:=8) dv.nd rfl (by first | exact Or.inl rfl | exact Or.inr rfl))) (by intro _ _ _ _ _;exact eA) (by intro _ _ _ _ _;exact (bu (tV (K:=K) rfl) (pv 8) (pv 5) (fun _ _=>rfl))))
   (aj (lX (xi PySem.F.plainAttrs_list PySem.F.slot_list_append PySem.F.type_list_append nv (pv 4) (aa (br (aG qH n8 (pv 6) (by rfl)) n8 (Ic (i:=2) rfl (Or.inl rfl) rfl L (hr.mono (by decide)) nD (aa (pv 6) ag))) ag))))))
   (aj (ao (pv 4)))))),?_⟩
  obtain ⟨⟨dx,ht⟩,⟨a8,hd,nX⟩,wf⟩:=tb;obtain ⟨qs,Rm,Vp,SN⟩:=zL nX cs xs sF Pr
  -- columns=[..]
  refine ⟨_,rfl,a,rfl,⟨_,hS⟩,fun C hC=>yf (fun i=>V.ref (qs.getD i 0)) hS hC (b8 (by rw [List.length_map];omega)) (fun i x H2 R R0 hx s2 hR=>?_) fun H2 s2 Rn=>?_⟩
  ·obtain ⟨c,Nm,rfl⟩:=eE hx;obtain ⟨p,dp,qq,y,e1,e2,e3,e4,e5⟩:=SN i c Nm;have eq:qs.getD i 0=qq:=by simp [List.getD,e1]
   refine ⟨rfl,?_⟩;have kP:=hR _ H2 (aB.refl _) rfl;rw [eq] at kP;exact eO (B:=R0 H2) ⟨_,rfl,t,Z.CT,dx,_,_,rfl,s2 _ _ ht,T.ud,T.nN,cA _ _,_,rfl,d,_,rfl,(by rw [← e3];exact nB.k (k:=Sum.inl (c:Int)) (s2 _ _ hd)),p,Z.CC,dp,_,_,rfl,s2 _ _ e4,T.DG,T.DH,lx _ _,kP⟩
  ·rw [show (aZ cs).length=qs.length by rw [List.length_map,Rm],Gm] at Rn;have XY:C≠t:=fun e=>by rw [e] at hC;rw [ht] at hC;cases hC
   -- numbers=[]
   refine ⟨by decide,fun D hD=>?_⟩;have N9:H D=none:=s2.free hD;have s3:aB H (upd H2 D (.lst [])):=ax s2 N9;have SO:C≠D:=bf Rn hD;have Vq:(upd H2 D (.lst [])) C=some (.lst (qs.map V.ref)):=by rw [aH SO];exact Rn
   -- for row in range(table.rows)
   have CA:=wf.rows;refine ⟨_,rfl,t,Z.CT,dx,_,_,rfl,s3 _ _ ht,T.ud,T.AF,wC _ _,(s.rows:Int),rfl,by omega,by omega,?_⟩;rw [Int.toNat_natCast];refine Fu (lo:=0) (n:=s.rows) (fun i σ Hi=>∃ u v,σ=[some (.ref t),some (.ref a),some (.ref fl),some (.ref C),some (.ref D),u,v,none,none]∧aB H Hi∧Hi C=some (.lst (qs.map V.ref))∧Hi D=some (.lst ((List.range i).map (iz (cellsOf xs) res))))
    ⟨none,none,rfl,s3,Vq,au⟩ (fun i σ Hi hi hp=>?_) fun σ Hi hp=>?_
   ·obtain ⟨u,v,rfl,s4,Pu,Nn⟩:=hp;rw [Int.zero_add]
    -- given=[..]
    refine ⟨_,rfl,C,rfl,⟨_,bU.of Pu⟩,fun G hG=>yf (fun j=>d6 (((cellsOf xs).getD j []).getD i none)) (bU.of Pu) hG (b8 (by rw [List.length_map];omega)) (fun j x H5 R R0 hx s5 hR=>?_) fun H5 s5 Ln=>?_⟩
    ·obtain ⟨q',Fz,rfl⟩:=eE hx;have hj:j < cs.length:=by rw [← Rm];exact (List.getElem?_eq_some_iff.mp Fz).1
     obtain ⟨p,dp,qq,y,e1,e2,e3,e4,e5⟩:=SN j _ (List.getElem?_eq_getElem hj);obtain rfl:q'=qq:=Option.some.inj (Fz.symm.trans e1);have hy:(cellsOf xs).getD j []=y.cells:=by simp [List.getD,e2]
     have QW:y.cells.length=s.rows:=by
      have hm:s.cols.getD cs[j] none=some y:=by
       have e6:=congrArg (fun l=>l[j]?) Pr;simp only [List.getElem?_map,List.getElem?_eq_getElem hj,e2,Option.map_some] at e6;exact Option.some.inj e6
      exact (wf.col _ _ hm).len
     refine ⟨rfl,?_⟩;have kP:=hR _ H5 (aB.refl _) rfl;rw [hy] at kP;have AM:(cells y.cells)[i]?=some (d6 (y.cells.getD i none)):=by
      rw [List.getElem?_map,List.getElem?_eq_getElem (by omega)];simp [List.getD,show i < y.cells.length by omega]
     exact eO (B:=R0 H5) ⟨_,rfl,_,rfl,q',_,_,_,rfl,rfl,bU.of (s5 _ _ (s4 _ _ e5)),aI AM,kP⟩
    ·have Vr:(List.range (qs.map V.ref).length).map (fun j=>d6 (((cellsOf xs).getD j []).getD i none))=DO (cellsOf xs) i:=by
      rw [List.length_map,Rm,← Vp];unfold DO
      conv=>rhs;rw [gc (cellsOf xs) []]
      rw [List.map_map,List.length_map];rfl
     rw [Vr] at Ln;have Oz:=s5 _ _ Nn;refine ⟨_,rfl,.inl ⟨rfl,_,bU.of Oz⟩,?_⟩;refine ⟨_,rfl,G,_,rfl,.inl (bU.of Ln),rfl,Gk _ _,_,rfl,?_⟩;have Jx:=ET (cellsOf xs) i;have hlen:((List.range i).map (iz (cellsOf xs) res)).length < sizeLine:=by
      rw [List.length_map,List.length_range];exact Nat.lt_of_lt_of_le hi (b8 (by omega))
     have fin:∀ y H6,aB H5 H6→y=iz (cellsOf xs) res i→qI (.ref D) [y] H6 (fun _ H7=>∃ u v,[some (V.ref t),some (V.ref a),some (V.ref fl),some (V.ref C),some (V.ref D),some (V.int (i:Int)),some (V.ref G),none,none]=[some (V.ref t),some (V.ref a),some (V.ref fl),some (V.ref C),some (V.ref D),u,v,none,none]∧aB H H7∧H7 C=some (.lst (qs.map V.ref))∧H7 D=some (.lst ((List.range (i+1)).map (iz (cellsOf xs) res)))):=by
      intro y H6 s6 ey;refine ⟨D,_,y,rfl,rfl,s6 _ _ Oz,hlen,_,_,rfl,ax (fun b o e=>s6 b o (s5 b o (s4 b o e))) N9,?_,?_⟩
      ·rw [aH SO];exact s6 _ _ (s5 _ _ Pu)
      ·rw [au,List.range_succ,List.map_append,ey];rfl
     cases hb:bx (cellsOf xs) i with
     | none =>
      rw [hb] at Jx;simp only [Jx,Bool.false_eq_true,if_false,Option.isNone_none,if_true];exact fin _ H5 (aB.refl _) (by unfold iz;rw [hb])
     | some bs =>
      rw [hb] at Jx;simp only [Jx,Bool.false_eq_true,if_false,Option.isNone_some];refine ⟨rfl,_,rfl,?_⟩;rw [zK hb] at Ln;refine Kl i bs H5 G _ hi hb (fun b o e=>s5 b o (s4 b o e)) Ln fun H6 s6=>?_;exact fin _ H6 s6 (by unfold iz;rw [hb])
   ·obtain ⟨u,v,rfl,s4,Pu,Nn⟩:=hp;exact ⟨_,rfl,q D Hi s4 N9 Nn⟩
end
end NK
namespace L2
open PySem PySem.Spec PyProof.Rows
theorem IM {d:Addr} {o:Obj} {a8:List (Key×V)} {g:TG} {tb:TS} {D:Ends} {σ:St} {H:Hp} (Pv:Nat→St→Hp→Prop) (h0:Pv 0 σ H) (hl:∀ i σ H,Pv i σ H→H d=some (.jD o (.dK a8)))
  (hs:∀ i k v σ H,a8[i]?=some (k,v)→Pv i σ H→g (kV k) σ H fun gy H2=>tb { D with nx:=Pv (i+1),ct:=Pv (i+1),bk:=D.nx } gy H2) (hd:∀ σ H,Pv a8.length σ H→D.nx σ H) :
  ∃ W:Nat→Nat→St→Hp→Prop,(∃ m,W 0 m σ H)∧∀ i m σ H,W i m σ H →
   ((Oi d o a8).stop i H∧D.nx σ H)∨((Oi d o a8).go i H∧∃ N:St→Hp→Prop,(∀ di H',N di H'→∃ m',m' < m∧W (i+1) m' di H')∧∀ x H',(Oi d o a8).Fq i H x H'→g x σ H' fun gy H2=>tb { D with nx:=N,ct:=N,bk:=D.nx } gy H2):=by
 refine ⟨fun i m σ H=>m=a8.length - i∧i≤a8.length∧Pv i σ H,⟨a8.length,by simp,Nat.zero_le _,h0⟩,?_⟩;rintro i m σ H ⟨rfl,hi,p⟩;have q:=hl i σ H p;by_cases iD:i < a8.length
 ·refine .inr ⟨⟨q,iD⟩,Pv (i+1),fun di H' p'=>⟨a8.length - (i+1),by omega,rfl,iD,p'⟩,fun x H' y=>?_⟩;obtain ⟨rfl,k,v,e,rfl⟩:=y;exact hs i k v σ _ e p
 ·have e:i=a8.length:=by omega
  subst e;exact .inl ⟨⟨q,Nat.le_refl _⟩,hd σ H p⟩
end L2
namespace NK
open PySem L2
section
variable {P:Program} {w:World} {K:PySem.W.Frag} {mg:Str→Option Value} {base:Heap} {f:Addr} {fd:FuncData} {Z:cg} {H:Hp} {Q:VK} {E:XK} {CF:Addr}
noncomputable abbrev yg (x:Rd18.Column) (rows:List Nat):Rd18.Column:={ x with cells:=Rd18.chosen x.cells rows }
theorem KL {s:Rd18.Abs} {rows:List Nat} (h:Nl s) (hl:rows.length≤2048):Nl (Rd18.anew s rows):=by
 refine ⟨by unfold Rd18.anew;rw [List.length_map];exact h.len,hl,fun c y hy=>?_⟩;unfold Rd18.anew at hy;have hy:(s.cols.map fun c=>c.map fun x=>yg x rows).getD c none=some y:=hy;rw [List.getD_eq_getElem?_getD,List.getElem?_map] at hy;cases hc:s.cols[c]? with
 | none=>rw [hc] at hy;cases hy
 | some o =>
  rw [hc] at hy;cases o with
  | none=>cases hy
  | some x =>
   obtain rfl:yg x rows=y:=Option.some.inj hy;have hx:=h.col c x (by rw [List.getD_eq_getElem?_getD,hc];rfl);refine ⟨hx.kind,by show (Rd18.chosen x.cells rows).length=rows.length;unfold Rd18.chosen;rw [List.length_map],fun b hb=>?_⟩;have hb:some b∈Rd18.chosen x.cells rows:=hb;unfold Rd18.chosen at hb;obtain ⟨i,_,e⟩:=List.mem_map.mp hb;refine hx.bits b ?_;rw [List.getD_eq_getElem?_getD] at e;cases hi:x.cells[i]? with
   | none=>rw [hi] at e;cases e
   | some z =>
    rw [hi] at e;have e:z=some b:=e;rw [← e];exact List.mem_of_getElem? hi
theorem IP (s:Rd18.Abs) (rows:List Nat) (c:Nat):(Rd18.anew s rows).cols.getD c none=(s.cols.getD c none).map fun x=>yg x rows:=by
 unfold Rd18.anew;show (s.cols.map fun c=>c.map fun x=>yg x rows).getD c none=_;rw [List.getD_eq_getElem?_getD,List.getElem?_map,List.getD_eq_getElem?_getD];cases s.cols[c]? <;> rfl
theorem zM {a8:List (Key×V)} {i:Nat} {k:Key} {v:V} (h:a8[i]?=some (k,v)):(a8.take (i+1)).map (·.1)=(a8.take i).map (·.1)++[k]:=by
 rw [List.take_add_one,h,List.map_append];rfl
theorem KN {a8:List (Key×V)} {i:Nat} {k:Key} {v:V} (nd:(a8.map (·.1)).Nodup) (h:a8[i]?=some (k,v)):k∉(a8.take i).map (·.1):=by
 have hs:((a8.take (i+1)).map (·.1)).Nodup:=nd.sublist ((List.take_sublist _ _).map _);rw [zM h,List.nodup_append] at hs;intro hm;exact hs.2.2 k hm k (by simp) rfl
theorem IQ {a8:List (Key×V)} {i:Nat} {k:Key} {v:V} (nd:(a8.map (·.1)).Nodup) (h:a8[i]?=some (k,v)):fi a8 k=some v:=by
 induction a8 generalizing i with
 | nil=>simp at h
 | cons p r ih =>
  rw [List.map_cons,List.nodup_cons] at nd;cases i with
  | zero =>
   obtain rfl:p=(k,v):=Option.some.inj h;exact fj rfl
  | succ i =>
   have hr:r[i]?=some (k,v):=h;have:¬ p.1=k:=fun e=>nd.1 (by rw [e];exact List.mem_map_of_mem (f:=(·.1)) (List.mem_of_getElem? hr));rw [fk this];exact ih nd.2 hr
theorem ow {a8:List (Key×V)} {k:Key} (h:k∉a8.map (·.1)):fi a8 k=none:=by
 cases e:fi a8 k with
 | none=>rfl
 | some v=>exact absurd (Kg e) h
theorem uX {α:Type} [DecidableEq α]:∀ {l m:List α},l.Nodup→(∀ x∈l,x∈m)→l.length≤m.length
 | [],_,_,_=>Nat.zero_le _
 | a::r,m,nd,h=>by
  rw [List.nodup_cons] at nd;have ih:=uX (l:=r) (m:=m.erase a) nd.2 fun x hx=>by
   have:x≠a:=fun e=>nd.1 (by rw [← e];exact hx);exact (List.mem_erase_of_ne this).mpr (h x (List.mem_cons_of_mem _ hx))
  rw [List.length_erase_of_mem (h a List.mem_cons_self)] at ih;have:0 < m.length:=List.length_pos_of_mem (h a List.mem_cons_self);rw [List.length_cons];omega
theorem yh {a:Addr} {xs:List V} {H H':Hp} (hS:bU K H a xs) (k:Kp H H'):bU K H' a xs:=by
 rcases hS with h | h
 ·rcases h with h | ⟨o,h⟩
  ·exact .inl (.inl (k _ _ h (.inl ⟨_,rfl⟩)))
  ·exact .inl (.inr ⟨o,k _ _ h (.inr ⟨_,_,rfl⟩)⟩)
 ·exact .inr h
theorem OA {H H':Hp} {d:Addr} {a8:List (Key×V)} (hd:H d=some (.dK a8)) (k:∀ b o,H b=some o→b≠d→H' b=some o):Kp H H':=fun b o e h=>by
 refine k b o e (fun z=>?_);subst z;rw [hd] at e;cases e;rcases h with ⟨_,h⟩ | ⟨_,_,h⟩ <;> cases h
theorem d7.put {H:Hp} {p cn:Addr} {x:Rd18.Column} {nk:List (Key×V)} {o:HO} (h:d7 Z H p x) (hc:H cn=some (.dK nk)):d7 Z (upd H cn o) p x:=by
 obtain ⟨dx,q,h1,h2⟩:=h;exact ⟨dx,q,by rw [aH (pz h1 hc (by intro z;cases z))];exact h1,by rw [aH (pz h2 hc (by intro z;cases z))];exact h2⟩
theorem d7.Ro {H:Hp} {p t:Addr} {x:Rd18.Column} {dx:Addr} {r:Int} {d:Addr} {o:HO} (h:d7 Z H p x) (hc:H t=some (.ins Z.CT dx (fT r d))):d7 Z (upd H t o) p x:=by
 obtain ⟨Pq,q,h1,h2⟩:=h;have n1:¬ (("kind":Str) = "rows"):=by decide +kernel
 exact ⟨Pq,q,by rw [aH (pz h1 hc (by intro z;injection z with _ _ z;injection z with z _;injection z with z _;exact n1 z))];exact h1,by rw [aH (pz h2 hc (by intro z;cases z))];exact h2⟩
noncomputable abbrev ox (Z:cg) (K:PySem.W.Frag):Sp:=fun vs H Q _=>∃ (t d a:Addr) (s:Rd18.Abs) (rows:List Nat),vs=[.ref t,.ref a]∧TabAt Z H t d s∧bU K H a (aZ rows)∧rows.length≤2048∧(∀ r∈rows,r < s.rows) ∧
 ∀ d' H',TabAt Z H' t d' (Rd18.anew s rows)→(∀ b o,H b=some o→b≠t→H' b=some o)→Q .dR H'
theorem AO (T:Ty K mg Z) (bz:lO P w K mg base 1 "Column" Z.CC ["kind","numbers"]) (D:aX K mg "take_rows" ml ["table","which"] f fd):ae P w K mg base 3 "take_rows" ["table","which"] (ox Z K):=by
 refine ae.of D gD (fun vs H Q E h=>?_) (fun bJ A outer s H vs Q E hr h=>?_)
 ·obtain ⟨t,d,a,s,rows,rfl,_⟩:=h;rfl
 ·obtain ⟨t,d,a,s,rows,rfl,tb,hS,hl,Rp,q⟩:=h;refine ⟨_,(ai (aO (i:=2) gD.nd rfl (by first | exact Or.inl rfl | exact Or.inr rfl) xm)
   (ai (Kc (w9 PassesOwn.never rfl (Kf (aE (pv 0) rfl)) (bZ (i:=3) gD.nd rfl (by first | exact Or.inl rfl | exact Or.inr rfl)) (ai (aO (i:=4) gD.nd rfl (by first | exact Or.inl rfl | exact Or.inr rfl) (cu (cQ hr) (aE (pv 0) rfl) (pv 3) (fun _ _=>rfl)))
   (aj (iH (cQ hr) (pv 2) (pv 3) (dQ bz (hr.mono (by decide)) (aa (aE (pv 4) rfl) (aa (nz (own:=[("row",5)]) rfl gD.nd (dA (pv 1)) (cq (N:=["table","which","columns","c","old","row"]) (sc:=ak ml) (by decide +kernel)) (fun _ _ _ _ _=>(bZ (i:=5) gD.nd rfl (by first | exact Or.inl rfl | exact Or.inr rfl))) (by intro _ _ _ _ _;exact eA) (by intro _ _ _ _ _;exact (bu (tV (K:=K) rfl) (jJ (K:=K) rfl (pv 4) rfl) (pv 5) (fun _ _=>rfl)))) ag))) rfl)))))
   (ai (kU (pv 0) (pv 2) rfl)
   (aj (kU (pv 0) (bA b9 (by rfl) T.kz jh (aa (pv 1) ag)) rfl))))),?_⟩
  obtain ⟨⟨dx,ht⟩,⟨a8,hd,nX⟩,wf⟩:=tb;intro cn Li;have Pw:d≠cn:=bf hd Li;have Vs:t≠cn:=bf ht Li;have IS:t≠d:=pz ht hd (by intro z;cases z)
  -- the dict is locked while it is walked
  refine ⟨d,.dK a8,by rw [aH Pw];exact hd,trivial,fun od=>?_⟩;have Lo:∀ b o,H b=some o→b≠d→(upd (upd H cn (.dK [])) d (.jD od (.dK a8))) b=some o:=fun b o e hb=>by
   rw [aH hb,aH (bf e Li)];exact e
  refine ⟨_,rfl,t,Z.CT,dx,_,_,rfl,Lo _ _ ht IS,T.ud,T.nN,cA _ _,d,od,rfl,.inl ⟨a8,au,?_⟩⟩;refine IM (d:=d) (o:=od) (a8:=a8) (fun i σ Hi=>∃ u v nk,σ=[some (.ref t),some (.ref a),some (.ref cn),u,v,none]∧Hi d=some (.jD od (.dK a8))∧(∀ b o,H b=some o→b≠d→Hi b=some o)∧Hi cn=some (.dK nk) ∧
    nk.map (·.1)=(a8.take i).map (·.1)∧∀ c:Nat,c < 16→Sum.inl (c:Int)∈nk.map (·.1)→∃ x p,s.cols.getD c none=some x∧fi nk (Sum.inl (c:Int))=some (.ref p)∧d7 Z Hi p (yg x rows))
   ⟨none,none,[],rfl,au,Lo,by rw [aH Pw.symm,au],rfl,fun c _ h=>by cases h⟩ (fun i σ Hi ⟨_,_,_,_,h,_⟩=>h) (fun i k v σ Hi hk hp=>?_) fun σ Hi hp=>?_
  ·obtain ⟨u,v0,nk,rfl,Np,kp,MS,Lp,MU⟩:=hp;obtain ⟨c,hc,rfl⟩:=nX.keys k (List.mem_map_of_mem (f:=(·.1)) (List.mem_of_getElem? hk));have SQ:=IQ nX.nd hk;have SR:=nX.val c hc;rw [SQ] at SR;obtain ⟨p,x,rfl,hx,dp,qq,hp,yJ⟩:∃ p x,v=.ref p∧s.cols.getD c none=some x∧d7 Z H p x:=by
    match v,hg:s.cols.getD c none,SR with
    | .ref p,some x,h=>exact ⟨p,x,rfl,rfl,h⟩
   have Jy:p≠d:=pz hp hd (by intro z;cases z);have Vt:qq≠d:=pz yJ hd (by intro z;cases z);have wx:=wf.col c x hx
   -- old=table.columns[c]
   refine ⟨_,rfl,t,Z.CT,dx,_,_,rfl,kp _ _ ht IS,T.ud,T.nN,cA _ _,_,rfl,d,.ref p,rfl,.inl ⟨a8,Sum.inl (c:Int),.inr ⟨od,Np⟩,rfl,SQ.symm⟩,?_⟩;have SS:bU K Hi a (aZ rows):=yh hS (OA hd kp)
   -- columns[c]=Column(old.kind,[..])
   refine ⟨_,rfl,p,Z.CC,dp,_,_,rfl,kp _ _ hp Jy,T.DG,T.Ca,oq _ _,_,rfl,a,rfl,⟨_,SS⟩,fun D hD=>yf (fun j=>d6 (x.cells.getD (rows.getD j 0) none)) SS hD (b8 (by rw [List.length_map];omega)) (fun j y H5 R R0 hy s5 hR=>?_) fun H5 s5 Oz=>?_⟩
   ·obtain ⟨r,Ox,rfl⟩:=eE hy;have Vu:rows.getD j 0=r:=by simp [List.getD,Ox]
    have SU:r < x.cells.length:=by rw [wx.len];exact Rp r (List.mem_of_getElem? Ox)
    have AM:(cells x.cells)[r]?=some (d6 (x.cells.getD r none)):=by
     rw [List.getElem?_map,List.getElem?_eq_getElem SU];simp [List.getD,SU]
    have kP:=hR _ H5 (aB.refl _) rfl;rw [Vu] at kP;refine ⟨rfl,?_⟩;exact eO (B:=R0 H5) ⟨_,rfl,p,Z.CC,dp,_,_,rfl,s5 _ _ (kp _ _ hp Jy),T.DG,T.DH,lx _ _,_,rfl,qq,_,_,_,rfl,rfl,bU.of (s5 _ _ (kp _ _ yJ Vt)),aI AM,kP⟩
   ·have GL:(List.range (aZ rows).length).map (fun j=>d6 (x.cells.getD (rows.getD j 0) none))=cells (Rd18.chosen x.cells rows):=by
     unfold cells Rd18.chosen;rw [List.length_map]
     conv=>rhs;rw [gc rows 0]
     rw [List.map_map,List.map_map];rfl
    rw [GL] at Oz;refine ⟨rfl,fun y H6 n6=>?_⟩;obtain ⟨s6,SV,dy,Vv⟩:=n6;have Px:aB Hi H6:=s5.trans s6;have MV:=Px _ _ MS;have kn:Sum.inl (c:Int)∉nk.map (·.1):=by rw [Lp];exact KN nX.nd hk
    have vn:=ow kn;have O1:nk.length < sizeLine:=by
     have h1:nk.length=(a8.take i).length:=by have:=congrArg List.length Lp;rwa [List.length_map,List.length_map] at this
     have h2:a8.length≤sizeLine:=by
      have h3:(a8.map (·.1)).length≤16:=by
       have h4:∀ k∈a8.map (·.1),k∈(List.range 16).map fun (c:Nat)=>(Sum.inl (c:Int):Key):=fun k hk=>by
        obtain ⟨c,hc,rfl⟩:=nX.keys k hk;exact List.mem_map.mpr ⟨c,List.mem_range.mpr hc,rfl⟩
       have h5:=uX nX.nd h4;rw [List.length_map (f:=fun (c:Nat)=>(Sum.inl (c:Int):Key)),List.length_range] at h5;exact h5
      rw [List.length_map] at h3;exact b8 (by omega)
     have h6:i < a8.length:=(List.getElem?_eq_some_iff.mp hk).1;rw [h1,List.length_take];omega
    refine ⟨_,rfl,_,rfl,cn,_,rfl,De.k (k:=Sum.inl (c:Int)) MV O1,?_⟩;refine ⟨_,_,_,rfl,?_,fun b o e hb=>?_,au,?_,fun c' Bb hm=>?_⟩
    ·rw [aH Pw];exact Px _ _ Np
    ·rw [aH (bf e Li)];exact Px _ _ (kp b o e hb)
    ·rw [tD _ vn,List.map_append,Lp,zM hk];rfl
    ·rw [BQ];by_cases En:c'=c
     ·subst En;refine ⟨x,y,hx,by rw [if_pos rfl],?_⟩;refine d7.put (Z:=Z) (H:=H6) ?_ MV;exact ⟨dy,D,Vv,s6 _ _ Oz⟩
     ·have KO:¬ (Sum.inl (c':Int):Key)=Sum.inl (c:Int):=fun e=>En (by have:=Sum.inl.inj e;omega);rw [if_neg KO];have KP:Sum.inl (c':Int)∈nk.map (·.1):=by
       rw [tD _ vn,List.map_append,List.mem_append] at hm;rcases hm with h | h
       ·exact h
       ·exact absurd (by simpa using h) KO
      obtain ⟨x',p',e1,e2,e3⟩:=MU c' Bb KP;exact ⟨x',p',e1,e2,(e3.same Px).put MV⟩
  ·obtain ⟨u,v0,nk,rfl,Np,kp,MS,Lp,MU⟩:=hp;rw [List.take_length] at Lp;refine ⟨Np,?_⟩;have SW:(upd Hi d (.dK a8)) t=some (.ins Z.CT dx (fT s.rows d)):=by rw [aH IS];exact kp _ _ ht IS
   have SX:∀ b o,H b=some o→(upd Hi d (.dK a8)) b=some o:=fun b o e=>by
    by_cases hb:b=d
    ·subst hb;rw [au];rw [hd] at e;exact e
    ·rw [aH hb];exact kp b o e hb
   have Vw:∀ b o,H b=some o→b≠t→(upd (upd Hi d (.dK a8)) t (.ins Z.CT dx (j6 "columns" (.ref cn) (fT s.rows d)))) b=some o:=fun b o e hb=>by rw [aH hb];exact SX b o e
   have Vx:bU K (upd (upd Hi d (.dK a8)) t (.ins Z.CT dx (j6 "columns" (.ref cn) (fT s.rows d)))) a (aZ rows):=yh hS fun b o e h=>Vw b o e (fun z=>by
    subst z;rw [ht] at e;cases e;rcases h with ⟨_,h⟩ | ⟨_,_,h⟩ <;> cases h)
   refine ⟨_,rfl,_,rfl,t,Z.CT,dx,_,rfl,SW,T.ud,T.nN,by show 2 < 1000;decide,?_⟩;refine ⟨_,rfl,a,_,rfl,.inl Vx,_,rfl,t,Z.CT,dx,_,rfl,au,T.ud,T.AF,by rw [AJ];show 2 < 1000;decide,?_⟩;rw [jE,AJ,ES,List.length_map];refine q cn _ ⟨⟨dx,au⟩,⟨nk,?_,?_⟩,KL wf hl⟩ fun b o e hb=>?_
   ·rw [aH Vs.symm,aH Pw.symm];exact MS
   ·refine ⟨by rw [Lp];exact nX.nd,by rw [Lp];exact nX.keys,fun c hc=>?_⟩;rw [IP];by_cases hm:Sum.inl (c:Int)∈nk.map (·.1)
    ·obtain ⟨x,p,e1,e2,e3⟩:=MU c hc hm;rw [e1,e2];obtain ⟨Pq,q',h1,h2⟩:=e3;have a1:p≠d:=pz h1 Np (by intro z;cases z);have a2:q'≠d:=pz h2 Np (by intro z;cases z);exact d7.Ro (Z:=Z) (H:=upd Hi d (.dK a8)) ⟨Pq,q',by rw [aH a1];exact h1,by rw [aH a2];exact h2⟩ SW
    ·rw [ow hm];have hn:fi a8 (Sum.inl (c:Int))=none:=ow (by rw [← Lp];exact hm);have hv:=nX.val c hc;rw [hn] at hv;cases hg:s.cols.getD c none with
     | none=>trivial
     | some x=>rw [hg] at hv;exact hv.elim
   ·rw [aH hb];exact SX b o e
end
end NK
set_option exponentiation.threshold 2000
namespace NK
open PySem L2
noncomputable abbrev ki:Stmt:=top 98
theorem uY:ay ["op"] ["op"] (ak ki):=⟨rfl,rfl,rfl,by decide +kernel,rfl,by decide +kernel,by decide +kernel⟩
noncomputable abbrev fN:Stmt:=top 99
theorem oy:ay ["kind","bits"] ["kind","bits"] (ak fN):=⟨rfl,rfl,rfl,by decide +kernel,rfl,by decide +kernel,by decide +kernel⟩
noncomputable abbrev gm:Stmt:=top 100
theorem o7:ay ["kind","bits"] ["kind","bits"] (ak gm):=⟨rfl,rfl,rfl,by decide +kernel,rfl,by decide +kernel,by decide +kernel⟩
noncomputable abbrev mR:Stmt:=top 101
theorem yi:ay ["kind","bits"] ["kind","bits"] (ak mR):=⟨rfl,rfl,rfl,by decide +kernel,rfl,by decide +kernel,by decide +kernel⟩
noncomputable abbrev sG:Stmt:=top 102
theorem Cf:ay ["kind","bits"] ["kind","bits"] (ak sG):=⟨rfl,rfl,rfl,by decide +kernel,rfl,by decide +kernel,by decide +kernel⟩
noncomputable abbrev AQ:Stmt:=top 103
theorem yj:ay ["op","kind_a","a","kind_b","b","worth_a","worth_b"] ["op","kind_a","a","kind_b","b"] (ak AQ):=⟨rfl,rfl,rfl,by decide +kernel,rfl,by decide +kernel,by decide +kernel⟩
noncomputable abbrev ly:Stmt:=top 104
theorem g9:ay ["kind","numbers","counts","bits","place"] ["kind","numbers"] (ak ly):=⟨rfl,rfl,rfl,by decide +kernel,rfl,by decide +kernel,by decide +kernel⟩
noncomputable abbrev oz:Stmt:=top 105
theorem mS:ay ["kind","bits","size","found"] ["kind","bits"] (ak oz):=⟨rfl,rfl,rfl,by decide +kernel,rfl,by decide +kernel,by decide +kernel⟩
noncomputable abbrev gn:Stmt:=top 106
theorem jc:ay ["size","one"] ["size"] (ak gn):=⟨rfl,rfl,rfl,by decide +kernel,rfl,by decide +kernel,by decide +kernel⟩
section
variable {P:Program} {w:World} {K:PySem.W.Frag} {mg:Str→Option Value} {base:Heap} {f:Addr} {fd:FuncData} {Z:cg} {H:Hp} {Q:VK} {E:XK} {CF:Addr}
noncomputable abbrev nP (_:cg) (_:PySem.W.Frag):Sp:=fun vs H Q _=>∃ i:Int,vs=[.int i]∧Q (.bl (decide (0≤i∧i≤3))) H
theorem uZ (T:Ty K mg Z)  (D:aX K mg "is_comparison" ki ["op"] f fd):ae P w K mg base 1 "is_comparison" ["op"] (nP Z K):=by
 refine ae.of D uY (fun vs H Q E h=>?_) (fun bJ A outer s H vs Q E hr h=>?_)
 ·obtain ⟨i,rfl,_⟩:=h;rfl
 ·obtain ⟨i,rfl,q⟩:=h;refine ⟨_,(aj (ao (kT gK gK (aM T.tR) (pv 0) (aM T.iu)))),?_⟩;simp_arith [];by_cases h0:0≤i
  ·simpa [h0] using q
  ·simpa [h0] using q
noncomputable def dC (_:cg) (_:PySem.W.Frag):Sp:=fun vs H Q _=>∃ k b:Nat,vs=[.int k,.int b]∧k≤8∧Q (.bl (cX k b)) H
theorem oA (T:Ty K mg Z) (aV:ae P w K mg base 1 "is_broken" ["kind"] cR) (aD:ae P w K mg base 1 "is_no_number" ["kind","bits"] cW) (D:aX K mg "is_no_number_of_any" fN ["kind","bits"] f fd):ae P w K mg base 2 "is_no_number_of_any" ["kind","bits"] (dC Z K):=by
 refine ae.of D oy (fun vs H Q E h=>?_) (fun bJ A outer s H vs Q E hr h=>?_)
 ·obtain ⟨k,b,rfl,_⟩:=h;rfl
 ·obtain ⟨k,b,rfl,xX,q⟩:=h;refine ⟨_,(aj (ao (Hk (ah aV (hr.mono (by decide)) (aa (pv 0) ag)) (Hj (ah aD (hr.mono (by decide)) (aa (pv 0) (aa (pv 1) ag))))))),?_⟩;simp_arith [cR];unfold cX at q;by_cases h6:6≤k
  ·have hk:Bk k:=by unfold Bk;omega
   simp only [h6,decide_true,if_true,Bool.true_and] at q ⊢;exact ⟨k,b,rfl,hk,q⟩
  ·simp only [h6,decide_false,Bool.false_eq_true,if_false,Bool.false_and] at q ⊢;exact q
noncomputable def dN (_:cg) (_:PySem.W.Frag):Sp:=fun vs H Q _=>∃ k b:Nat,vs=[.int k,.int b]∧k≤8∧Q (.bl (nZ k b)) H
theorem o8 (T:Ty K mg Z) (aV:ae P w K mg base 1 "is_broken" ["kind"] cR) (az:ae P w K mg base 1 "is_infinite" ["kind","bits"] cb) (D:aX K mg "is_infinite_of_any" gm ["kind","bits"] f fd):ae P w K mg base 2 "is_infinite_of_any" ["kind","bits"] (dN Z K):=by
 refine ae.of D o7 (fun vs H Q E h=>?_) (fun bJ A outer s H vs Q E hr h=>?_)
 ·obtain ⟨k,b,rfl,_⟩:=h;rfl
 ·obtain ⟨k,b,rfl,xX,q⟩:=h;refine ⟨_,(aj (ao (Hk (ah aV (hr.mono (by decide)) (aa (pv 0) ag)) (Hj (ah az (hr.mono (by decide)) (aa (pv 0) (aa (pv 1) ag))))))),?_⟩;simp_arith [cR];unfold nZ at q;by_cases h6:6≤k
  ·have hk:Bk k:=by unfold Bk;omega
   simp only [h6,decide_true,if_true,Bool.true_and] at q ⊢;exact ⟨k,b,rfl,hk,q⟩
  ·simp only [h6,decide_false,Bool.false_eq_true,if_false,Bool.false_and] at q ⊢;exact q
theorem Cg (i:Int):(Builtin.Int.intBits i:Int)=bq i.natAbs:=by
 unfold Builtin.Int.intBits bq;by_cases h:i.natAbs=0
 ·have h0:i=0:=by omega
  rw [if_pos h];simp [h0]
 ·have h0:i≠0:=by omega
  rw [if_neg h];simp [h0]
theorem MW {i:Int} (h1:-(2 ^ 64) < i) (h2:i < 2 ^ 64):bq i.natAbs≤64:=by
 have e:(2:Nat) ^ 64=18446744073709551616:=by decide
 exact bK (d:=64) (by rw [e];omega)
noncomputable abbrev iV (_:cg) (_:PySem.W.Frag):Sp:=fun vs H Q _=>∃ k b:Nat,vs=[.int k,.int b]∧k≤8∧Vk k b∧pX (fz k b) H Q
theorem yk (T:Ty K mg Z) (aV:ae P w K mg base 1 "is_broken" ["kind"] cR) (ek:ae P w K mg base 1 "signed_size" ["x","power"] (iQ Z K)) (bc:ae P w K mg base 3 "whole_of_bits" ["kind","bits"] jV) (aA:ae P w K mg base 3 "finite_of_bits" ["kind","bits"] (nJ Z.CF)) (D:aX K mg "finest_size" mR ["kind","bits"] f fd):ae P w K mg base 4 "finest_size" ["kind","bits"] (iV Z K):=by
 refine ae.of D yi (fun vs H Q E h=>?_) (fun bJ A outer s H vs Q E hr h=>?_)
 ·obtain ⟨k,b,rfl,_⟩:=h;rfl
 ·obtain ⟨k,b,rfl,xX,hb,q⟩:=h;refine ⟨_,(ai (aR (aN (ah aV (hr.mono (by decide)) (aa (pv 0) ag))) (aj (ao (ah ek (hr.mono (by decide)) (aa (ah aA (hr.mono (by decide)) (aa (pv 0) (aa (pv 1) ag))) (aa (aM T.dJ) ag))))) aw)
   (aj (ao (aT d4 (ah bc (hr.mono (by decide)) (aa (pv 0) (aa (pv 1) ag))) (pD kS (aM T.dJ)))))),?_⟩
  simp_arith [cR];unfold fz at q;by_cases h6:6≤k
  ·have hk:Bk k:=by unfold Bk;omega
   simp only [h6,if_true] at q ⊢;have fb:=qX (b:=b) hk;exact gh hk fun x H1 s1 hx=>⟨x,-1074,_,_,_,rfl,hx,by omega,by omega,by omega,q H1 s1⟩
  ·have hk:k < 6:=by omega
   simp only [h6,if_false] at q ⊢;have wb:=xW hk hb;have bl:=MW wb.1 wb.2;refine ⟨k,b,rfl,hk,hb,_,rfl,⟨by decide,by rw [Cg];omega⟩,?_⟩;have e:(- -1074:Int).toNat=1074:=by decide
   rw [e,cD];exact q H (aB.refl H)
noncomputable abbrev vA (_:cg) (_:PySem.W.Frag):Sp:=fun vs H Q _=>∃ k b:Nat,vs=[.int k,.int b]∧k≤8∧Vk k b∧∀ r H',aB H H'→H' r=some (.tup [.int (pairOf k b).1,.int (pairOf k b).2])→Q (.ref r) H'
theorem Ci (T:Ty K mg Z) (cH:ae P w K mg base 2 "is_infinite_of_any" ["kind","bits"] (dN Z K)) (df:ae P w K mg base 4 "finest_size" ["kind","bits"] (iV Z K)) (bt:ae P w K mg base 1 "sign_of" ["kind","bits"] fM) (D:aX K mg "worth_of" sG ["kind","bits"] f fd):ae P w K mg base 5 "worth_of" ["kind","bits"] (vA Z K):=by
 refine ae.of D Cf (fun vs H Q E h=>?_) (fun bJ A outer s H vs Q E hr h=>?_)
 ·obtain ⟨k,b,rfl,_⟩:=h;rfl
 ·obtain ⟨k,b,rfl,xX,hb,q⟩:=h;refine ⟨_,(ai (aR (aN (ah cH (hr.mono (by decide)) (aa (pv 0) (aa (pv 1) ag)))) (aj (ao (br (aG bD (ah bt (hr.mono (by decide)) (aa (pv 0) (aa (pv 1) ag))) ar (aJ _)) (z9 (aa (pD kS ar) (aa ar ag))) (z9 (aa ar (aa ar ag)))))) aw)
   (aj (ao (z9 (aa ar (aa (ah df (hr.mono (by decide)) (aa (pv 0) (aa (pv 1) ag))) ag)))))),?_⟩
  simp_arith [dN,xX,NW,fM];unfold pairOf at q;have new:∀ (H1:Hp) (p:Addr) (o:HO),aB H H1→H1 p=none→aB H (upd H1 p o):=fun H1 p o s1 hp=>ax s1 (s1.free hp);cases hi:nZ k b with
  | true =>
   have h6:6≤k:=by unfold nZ at hi;simp at hi;exact hi.1
   have hk:Bk k:=by unfold Bk;omega
   simp only [hi,if_true,hk,true_and] at q ⊢;cases hn:a9 k b with
   | true =>
    have e:(sg true=1)=True:=by simp [sg]
    simp only [hn,e,if_true] at q ⊢;exact ⟨by decide,fun p hp=>q p _ (new H p _ (aB.refl H) hp) au⟩
   | false =>
    have e:(sg false=1)=False:=by simp [sg]
    simp only [hn,e,if_false,Bool.false_eq_true] at q ⊢;exact ⟨by decide,fun p hp=>q p _ (new H p _ (aB.refl H) hp) au⟩
  | false =>
   simp only [hi,Bool.false_eq_true,if_false] at q ⊢;exact ⟨k,b,rfl,xX,hb,fun H1 s1=>⟨by decide,fun p hp=>q p _ (new H1 p _ s1 hp) au⟩⟩
theorem Gn (i j m n:Int):HT.lexLt [i,j] [m,n]=G5 (i,j) (m,n):=by
 rw [HT.r6,HT.r6,HT.rz];unfold G5;by_cases h:i=m
 ·rw [if_pos h];by_cases h2:j=n
  ·rw [if_pos h2];exact (decide_eq_false (by show ¬ (i < m∨i=m∧j < n);omega)).symm
  ·rw [if_neg h2];exact decide_eq_decide.mpr (by show j < n↔(i < m∨i=m∧j < n);omega)
 ·rw [if_neg h];exact decide_eq_decide.mpr (by show i < m↔(i < m∨i=m∧j < n);omega)
theorem Gp (i j m n:Int):HT.lexLe [i,j] [m,n]=(G5 (i,j) (m,n) || decide ((i,j)=(m,n))):=by
 rw [HT.r9,HT.r9,HT.zF];unfold G5;rw [Bool.eq_iff_iff];simp only [Bool.or_eq_true,decide_eq_true_eq,Prod.mk.injEq];by_cases h:i=m
 ·rw [if_pos h];by_cases h2:j=n
  ·rw [if_pos h2];simp;omega
  ·rw [if_neg h2];simp;omega
 ·rw [if_neg h];simp;omega
noncomputable abbrev yl (_:cg) (_:PySem.W.Frag):Sp:=fun vs H Q _=>∃ o ka a kb b:Nat,vs=[.int o,.int ka,.int a,.int kb,.int b]∧o≤3∧ka≤8∧Vk ka a∧kb≤8∧Vk kb b∧∀ H',aB H H'→Q (.bl (Rd18.holds o (Rd18.worth ka a) (Rd18.worth kb b))) H'
theorem IT (T:Ty K mg Z) (oB:ae P w K mg base 5 "worth_of" ["kind","bits"] (vA Z K)) (bY:ae P w K mg base 2 "is_no_number_of_any" ["kind","bits"] (dC Z K)) (D:aX K mg "holds" AQ ["op","kind_a","a","kind_b","b"] f fd):ae P w K mg base 6 "holds" ["op","kind_a","a","kind_b","b"] (yl Z K):=by
 refine ae.of D yj (fun vs H Q E h=>?_) (fun bJ A outer s H vs Q E hr h=>?_)
 ·obtain ⟨o,ka,a,kb,b,rfl,_⟩:=h;rfl
 ·obtain ⟨o,ka,a,kb,b,rfl,ho,EU,ha,MX,hb,q⟩:=h;refine ⟨_,(ai (aR (PW.pt (ku (aN (ah bY (hr.mono (by decide)) (aa (pv 1) (aa (pv 2) ag)))) (hW (aN (ah bY (hr.mono (by decide)) (aa (pv 3) (aa (pv 4) ag))))))) (aj (ao (dM bD (pv 0) (aM T.iu) (aJ _)))) aw)
   (ai (aR (aG bD (pv 0) (aM T.iu) (aJ _)) (aj (ao tm)) aw)
   (ai (aO (i:=5) yj.nd rfl (by first | exact Or.inl rfl | exact Or.inr rfl) (ah oB (hr.mono (by decide)) (aa (pv 1) (aa (pv 2) ag))))
   (ai (aO (i:=6) yj.nd rfl (by first | exact Or.inl rfl | exact Or.inr rfl) (ah oB (hr.mono (by decide)) (aa (pv 3) (aa (pv 4) ag))))
   (ai (aR (aG bD (pv 0) (aM T.tR) (aJ _)) (aj (ao (dM (ML hr.units) (pv 5) (pv 6) (aJ _)))) aw)
   (aj (ao (br (aG bD (pv 0) (aM T.wt) (aJ _)) (dM (Mb hr.Hy) (pv 5) (pv 6) (aJ _)) (dM (MK hr.Hy) (pv 5) (pv 6) (aJ _)))))))))),?_⟩
  have e0:((o:Int)=0)=(o=0):=by apply propext;omega
  have e1:((o:Int)=1)=(o=1):=by apply propext;omega
  have e3:((o:Int)=3)=(o=3):=by apply propext;omega
  rw [Fh EU MX ho] at q;simp_arith [dC,EU,MX,e0,e1,e3];cases na:cX ka a with
  | true=>simp only [na,true_or,if_true] at q ⊢;exact q H (aB.refl H)
  | false =>
   cases nb:cX kb b with
   | true=>simp only [na,nb,or_true,if_true,Bool.false_eq_true,if_false] at q ⊢;exact q H (aB.refl H)
   | false =>
    simp only [na,nb,Bool.false_eq_true,or_self,if_false] at q ⊢;by_cases h3:o=3
    ·simp only [h3,if_true] at q ⊢;exact q H (aB.refl H)
    ·simp only [h3,if_false] at q ⊢;refine ⟨ka,a,rfl,EU,ha,fun x H1 s1 hx=>⟨kb,b,rfl,MX,hb,fun y H2 s2 hy=>?_⟩⟩;have MY:=s2 _ _ hx;have qf:=q H2 (s1.trans s2);generalize pairOf ka a=u at *
     generalize pairOf kb b=v at *
     obtain ⟨u1,u2⟩:=u;obtain ⟨v1,v2⟩:=v;by_cases h0:o=0
     ·simp only [h0,if_true,Prod.mk.injEq] at qf ⊢;exact ⟨x,y,_,_,_,_,rfl,rfl,vi.of MY,vi.of hy,qf⟩
     ·by_cases h1:o=1
      ·simp only [h0,h1,if_true,if_false] at qf ⊢;simp only [Nat.one_ne_zero,if_false] at qf ⊢;refine ⟨x,y,[u1,u2],[v1,v2],rfl,rfl,vi.of MY,vi.of hy,?_⟩;rw [Gn];exact qf
      ·simp only [h0,h1,if_false] at qf ⊢;refine ⟨x,y,[u1,u2],[v1,v2],rfl,rfl,vi.of MY,vi.of hy,?_⟩;rw [Gp];exact qf
end
end NK
set_option exponentiation.threshold 2000
namespace NK
open PySem L2
section
variable {P:Program} {w:World} {K:PySem.W.Frag} {mg:Str→Option Value} {base:Heap} {f:Addr} {fd:FuncData} {Z:cg} {H:Hp} {Q:VK} {E:XK} {CF:Addr}
theorem lP {c A B:Prop} [Decidable c] (h1:c→A) (h2:¬ c→B):if decide c=true then A else B:=by
 by_cases h:c
 ·rw [if_pos (decide_eq_true h)];exact h1 h
 ·rw [if_neg (by simpa using h)];exact h2 h
theorem iA {c A B:Prop} [Decidable c] (h1:¬ c→A) (h2:c→B):if (!decide c)=true then A else B:=by
 by_cases h:c
 ·rw [if_neg (by simpa using h)];exact h2 h
 ·rw [if_pos (by simpa using h)];exact h1 h
theorem kJ {c:Bool} {A B:Prop} (h1:c=true→A) (h2:c=false→B):if c=true then A else B:=by
 cases c
 ·rw [if_neg (by decide)];exact h2 rfl
 ·rw [if_pos rfl];exact h1 rfl
noncomputable abbrev IU (xs:List V) (H:Hp) (Q:VK):Prop:=∀ r H',aB H H'→H r=none→H' r=some (.lst xs)→Q (.ref r) H'
theorem tW {xs:List V} (q:IU xs H Q):∀ p,H p=none→Q (.ref p) (upd H p (.lst xs)):=fun p hp=>q p _ (ax (aB.refl H) hp) hp au
noncomputable abbrev jd (_:cg) (_:PySem.W.Frag):Sp:=fun vs H Q _=>∃ z:Int,vs=[.int z]∧IU (aZ (jg z)) H Q
theorem o9 (T:Ty K mg Z)  (D:aX K mg "classes_by_divisor" gn ["size"] f fd):ae P w K mg base 1 "classes_by_divisor" ["size"] (jd Z K):=by
 refine ae.of D jc (fun vs H Q E h=>?_) (fun bJ A outer s H vs Q E hr h=>?_)
 ·obtain ⟨z,rfl,_⟩:=h;rfl
 ·obtain ⟨z,rfl,q⟩:=h;refine ⟨_,(ai (aO (i:=1) jc.nd rfl (by first | exact Or.inl rfl | exact Or.inr rfl) (aT d4 ar (pD kS (aM T.dJ))))
   (ai (aR (aG lY (aT hY (pv 0) (pv 1)) ar (aJ _)) (aj (ao (aP ag))) aw)
   (aj (ao (br (aG bD (aT hY (pv 0) (aT ui ar (pv 1))) ar (aJ _)) (aP (aa (aM T.gX) ag)) (aP (aa (aM T.gX) (aa (aM T.me) ag)))))))),?_⟩
  have cs:Dk 1 (- -1074):=iP (by decide) (by decide);have e:(- -1074:Int).toNat=1074:=by decide
  have ho:(0:Int) < ((2 ^ 1074:Nat):Int):=by have:=Nat.two_pow_pos 1074;omega
  have Ma:(0:Int) < 2*((2 ^ 1074:Nat):Int):=by omega
  have cm:z5 2 ((2 ^ 1074:Nat):Int):=.inl ⟨by decide,by decide⟩;simp_arith [cs,e,Int.one_mul,cD,ho,NX];unfold jg at q;generalize ((2 ^ 1074:Nat):Int)=one at *
  by_cases h1:z % one=0
  ·simp only [h1,not_true_eq_false,decide_true,Bool.not_true,Bool.false_eq_true,if_false,ne_eq,cm,Ma,true_and] at q ⊢;by_cases h2:z % (2*one)=0
   ·simp only [h2,if_true] at q ⊢;exact ⟨by decide,tW q⟩
   ·simp only [h2,if_false] at q ⊢;exact ⟨by decide,tW q⟩
  ·simp only [h1,not_false_eq_true,decide_false,Bool.not_false,if_true,ne_eq] at q ⊢;exact ⟨by decide,tW q⟩
noncomputable abbrev rH (_:cg) (_:PySem.W.Frag):Sp:=fun vs H Q _=>∃ k b:Nat,vs=[.int k,.int b]∧k≤8∧Vk k b∧IU (aZ (kr k b)) H Q
theorem DP (z:Int):(jg z).length≤2:=by
 unfold jg;split
 ·decide
 ·split <;> decide
theorem y6 (T:Ty K mg Z) (bY:ae P w K mg base 2 "is_no_number_of_any" ["kind","bits"] (dC Z K)) (cH:ae P w K mg base 2 "is_infinite_of_any" ["kind","bits"] (dN Z K)) (df:ae P w K mg base 4 "finest_size" ["kind","bits"] (iV Z K)) (gp:ae P w K mg base 1 "classes_by_divisor" ["size"] (jd Z K)) (aV:ae P w K mg base 1 "is_broken" ["kind"] cR) (u3:ae P w K mg base 1 "is_tiny" ["kind","bits"] (oj Z K)) (D:aX K mg "classes_of" oz ["kind","bits"] f fd):ae P w K mg base 5 "classes_of" ["kind","bits"] (rH Z K):=by
 refine ae.of D mS (fun vs H Q E h=>?_) (fun bJ A outer s H vs Q E hr h=>?_)
 ·obtain ⟨k,b,rfl,_⟩:=h;rfl
 ·obtain ⟨k,b,rfl,xX,hb,q⟩:=h;refine ⟨_,(ai (aR (aN (ah bY (hr.mono (by decide)) (aa (pv 0) (aa (pv 1) ag)))) (aj (ao (aP (aa (aM T.fX) ag)))) aw)
   (ai (aR (aN (ah cH (hr.mono (by decide)) (aa (pv 0) (aa (pv 1) ag)))) (aj (ao (aP (aa (aM T.gz) ag)))) aw)
   (ai (aO (i:=2) mS.nd rfl (by first | exact Or.inl rfl | exact Or.inr rfl) (ah df (hr.mono (by decide)) (aa (pv 0) (aa (pv 1) ag))))
   (ai (aO (i:=3) mS.nd rfl (by first | exact Or.inl rfl | exact Or.inr rfl) (ah gp (hr.mono (by decide)) (aa (pv 2) ag)))
   (ai (aR (aG bD (pv 2) ar (aJ _)) (aj (lX (xi PySem.F.plainAttrs_list PySem.F.slot_list_append PySem.F.type_list_append nv (pv 3) (aa (aM T.kE) ag)))) aw)
   (ai (aR (aG vj (pv 2) ar (aJ _)) (aj (lX (xi PySem.F.plainAttrs_list PySem.F.slot_list_append PySem.F.type_list_append nv (pv 3) (aa (aM T.fc) ag)))) aw)
   (ai (aR (PW.pt (fK (aN (ah aV (hr.mono (by decide)) (aa (pv 0) ag))) (gx (aN (ah u3 (hr.mono (by decide)) (aa (pv 0) (aa (pv 1) ag))))))) (aj (lX (xi PySem.F.plainAttrs_list PySem.F.slot_list_append PySem.F.type_list_append nv (pv 3) (aa (aM T.kF) ag)))) aw)
   (aj (ao (pv 3)))))))))),?_⟩
  unfold kr at q;refine ⟨_,rfl,_,rfl,k,b,rfl,xX,_,rfl,?_⟩;cases na:cX k b with
  | true =>
   simp only [na,if_true] at q;exact eO ⟨by decide,tW q⟩
  | false =>
   refine ux ⟨_,rfl,_,rfl,k,b,rfl,xX,_,rfl,?_⟩;cases ia:nZ k b with
   | true =>
    simp only [na,ia,Bool.false_eq_true,if_true,if_false] at q;exact eO ⟨by decide,tW q⟩
   | false =>
    simp only [na,ia,Bool.false_eq_true,if_false] at q;refine ux ⟨_,rfl,_,rfl,k,b,rfl,xX,hb,fun H1 s1=>⟨_,rfl,fz k b,rfl,fun r H2 s2 IV xT=>?_⟩⟩;have GR:H r=none:=s1.free IV;have sm:aB H H2:=s1.trans s2;have hl:=DP (fz k b);generalize fz k b=z at *
    have ap:∀ (c:Nat) (l:List Nat) (H3:Hp),(upd H3 r (.lst (aZ l++[V.int (c:Int)]))) r=some (.lst (aZ (l++[c]))):=by
     intro c l H3;rw [au];have:aZ l++[V.int (c:Int)]=aZ (l++[c]):=by unfold aZ;rw [List.map_append];rfl
     rw [this]
    have ln:∀ l:List Nat,l.length≤5→(aZ l).length < sizeLine:=fun l h=>Nat.lt_of_le_of_lt (by rw [List.length_map];exact h) (by decide)
    -- if size == 0
    have k2:∀ (l:List Nat) (H3:Hp),l=jg z++(if z=0 then [2] else [])→aB H H3→H3 r=some (.lst (aZ l)) →
      (tSeq (tIfS (tTest (tOp (rI0 fun i j=>.bl (decide (i < j))) (tVar 2) (tC (.int 0)))) (zq (Ng K "list" qI (tVar 3) (tCons (tC (.int 3)) tNil))) tNext)
       (tSeq (tIfS (tAnd (tB (tCall cR [] E0 (tCons (tVar 0) tNil))) (tB (tCall (oj Z K) [] E0 (tCons (tVar 0) (tCons (tVar 1) tNil))))) (zq (Ng K "list" qI (tVar 3) (tCons (tC (.int 4)) tNil))) tNext) (tRet (tVar 3)))) { nx:=fun _ H'=>Q .dR H',rt:=Q } [some (.int k),some (.int b),some (.int z),some (.ref r)] H3:=by
     intro l H3 el SY Jz;have XZ:l.length≤3:=by rw [el,List.length_append];split <;> simp <;> omega
     have k3:∀ (l':List Nat) (H4:Hp),l'=jg z++(if z=0 then [2] else [])++(if z < 0 then [3] else [])→l'.length≤4→aB H H4→H4 r=some (.lst (aZ l')) →
       (tSeq (tIfS (tAnd (tB (tCall cR [] E0 (tCons (tVar 0) tNil))) (tB (tCall (oj Z K) [] E0 (tCons (tVar 0) (tCons (tVar 1) tNil))))) (zq (Ng K "list" qI (tVar 3) (tCons (tC (.int 4)) tNil))) tNext) (tRet (tVar 3))) { nx:=fun _ H'=>Q .dR H',rt:=Q } [some (.int k),some (.int b),some (.int z),some (.ref r)] H4:=by
      intro l' H4 Rq X0 Ov wD;refine ⟨_,rfl,k,rfl,_,rfl,?_⟩;refine lP (fun h6=>?_) (fun h6=>?_)
      ·have hk:Bk k:=by unfold Bk;omega
       refine ⟨_,rfl,_,rfl,k,b,rfl,hk,_,rfl,?_⟩;cases ht:lV k b with
       | true =>
        refine eO ⟨_,rfl,.inl ⟨rfl,_,bU.of wD⟩,r,_,_,rfl,rfl,wD,ln l' (by omega),_,rfl,q r _ (ax Ov GR) GR ?_⟩;rw [if_pos (show 6≤k∧lV k b=true from ⟨h6,ht⟩),← Rq];exact ap 4 l' H4
       | false =>
        refine ux ⟨_,rfl,q r _ Ov GR ?_⟩;rw [wD,Rq,if_neg (show ¬ (6≤k∧lV k b=true) from fun y=>by rw [ht] at y;exact Bool.false_ne_true y.2),List.append_nil]
      ·refine ux ⟨_,rfl,q r _ Ov GR ?_⟩;rw [wD,Rq,if_neg (show ¬ (6≤k∧lV k b=true) from fun y=>h6 y.1),List.append_nil]
     refine ⟨_,rfl,_,_,rfl,rfl,_,rfl,?_⟩;refine lP (fun hz=>?_) (fun hz=>?_)
     ·refine ⟨_,rfl,.inl ⟨rfl,_,bU.of Jz⟩,r,_,_,rfl,rfl,Jz,ln l (by omega),k3 (l++[3]) _ ?_ ?_ (ax SY GR) (ap 3 l H3)⟩
      ·rw [el,if_pos hz]
      ·rw [List.length_append];simp;omega
     ·refine k3 l H3 ?_ (by omega) SY Jz;rw [if_neg hz,List.append_nil];exact el
    refine ⟨_,rfl,rfl,_,rfl,?_⟩;refine lP (fun Pj=>?_) (fun Pj=>?_)
    ·have hz:z=0:=V.int.inj Pj;refine ⟨_,rfl,.inl ⟨rfl,_,bU.of xT⟩,r,_,_,rfl,rfl,xT,ln (jg z) (by omega),k2 (jg z++[2]) _ ?_ (ax sm GR) (ap 2 (jg z) H2)⟩;rw [if_pos hz]
    ·have hz:¬ z=0:=fun e=>Pj (by rw [e]);refine k2 (jg z) H2 ?_ sm xT;rw [if_neg hz,List.append_nil]
noncomputable def AR (k:Nat) (bs:List Nat) (j:Nat):Nat:=(bs.map fun b=>(kr k b).count j).sum
noncomputable def nQ (k:Nat) (bs l:List Nat):List Nat:=(List.range 7).map fun j=>AR k bs j+l.count j
theorem IW {k b j:Nat} (h:j∈kr k b):j < 7:=by
 unfold kr jg at h;split at h
 ·simp at h;omega
 ·split at h
  ·simp at h;omega
  ·rw [List.mem_append,List.mem_append,List.mem_append] at h;rcases h with ((h | h) | h) | h
   ·split at h
    ·cases h
    ·split at h <;> simp at h <;> omega
   ·split at h <;> simp at h;omega
   ·split at h <;> simp at h;omega
   ·split at h <;> simp at h;omega
theorem p7 (k:Nat) (bs l:List Nat):(nQ k bs l).length=7:=by unfold nQ;simp
theorem IX {k j:Nat} (bs l:List Nat) (h:j < 7):(nQ k bs l)[j]?=some (AR k bs j+l.count j):=by unfold nQ;simp [h]
theorem Gq {k c:Nat} (bs l:List Nat) (h:c < 7):nQ k bs (l++[c])=(nQ k bs l).set c (AR k bs c+l.count c+1):=by
 refine List.ext_getElem (by simp [p7]) fun j h1 h2=>?_;rw [p7] at h1;rw [List.getElem_set];have e1:(nQ k bs (l++[c]))[j]'(by rw [p7];exact h1)=AR k bs j+(l++[c]).count j:=by unfold nQ;simp
 have e2:(nQ k bs l)[j]'(by rw [p7];exact h1)=AR k bs j+l.count j:=by unfold nQ;simp
 rw [e1,e2,List.count_append];by_cases hj:c=j
 ·subst hj;rw [if_pos rfl];simp;omega
 ·rw [if_neg hj];have:[c].count j=0:=by rw [List.count_eq_zero];simp;exact fun e=>hj e.symm
  rw [this];omega
theorem Gr {k b:Nat} (bs:List Nat):nQ k (bs++[b]) []=nQ k bs (kr k b):=by
 unfold nQ;refine List.map_congr_left fun j _=>?_;unfold AR;rw [List.map_append,List.sum_append];simp
theorem EV {k:Nat} (hk:k≤8) {j:Nat} (hj:j < 7):∀ bs:List Nat,AR k bs j=(bs.filter (Fj k j)).length
 | []=>rfl
 | b::r=>by
  have ih:=EV hk hj r;unfold AR at *
  rw [List.map_cons,List.sum_cons,ih,Fk hk hj,List.filter_cons];split
  ·rw [List.length_cons];omega
  ·omega
noncomputable def ym (k:Nat) (bs:List Nat):List Nat:=(List.range 7).map fun j=>(bs.filter (Fj k j)).length
theorem Gs {k:Nat} (hk:k≤8) (bs:List Nat):nQ k bs []=ym k bs:=by
 unfold nQ ym;refine List.map_congr_left fun j hj=>?_;rw [EV hk (List.mem_range.mp hj)];simp
noncomputable abbrev oV (_:cg) (K:PySem.W.Frag):Sp:=fun vs H Q _=>∃ (k:Nat) (a:Addr) (bs:List Nat),vs=[.int k,.ref a]∧k≤8∧bU K H a (aZ bs)∧bs.length≤4000∧(∀ b∈bs,Vk k b)∧IU (aZ (ym k bs)) H Q
theorem vP (T:Ty K mg Z) (oC:ae P w K mg base 5 "classes_of" ["kind","bits"] (rH Z K)) (D:aX K mg "class_counts" ly ["kind","numbers"] f fd):ae P w K mg base 6 "class_counts" ["kind","numbers"] (oV Z K):=by
 refine ae.of D g9 (fun vs H Q E h=>?_) (fun bJ A outer s H vs Q E hr h=>?_)
 ·obtain ⟨k,a,bs,rfl,_⟩:=h;rfl
 ·obtain ⟨k,a,bs,rfl,xX,hS,hl,hb,q⟩:=h;refine ⟨_,(ai (aO (i:=2) g9.nd rfl (by first | exact Or.inl rfl | exact Or.inr rfl) (aT HI (aP (aa ar ag)) (aM T.g0)))
   (ai (w9 PassesOwn.never rfl (dA (pv 1)) (bZ (i:=3) g9.nd rfl (by first | exact Or.inl rfl | exact Or.inr rfl)) (aj (w9 PassesOwn.never rfl (dA (ah oC (hr.mono (by decide)) (aa (pv 0) (aa (pv 3) ag)))) (bZ (i:=4) g9.nd rfl (by first | exact Or.inl rfl | exact Or.inr rfl)) (aj (Ep (pv 2) (pv 4) Ce ar Hm set_list)))))
   (aj (ao (pv 2))))),?_⟩
  refine ⟨by decide,fun p0 DN=>?_⟩;have s0:aB H (upd H p0 (.lst [.int 0])):=ax (aB.refl H) DN;refine ⟨p0,7,_,rfl,rfl,au,by decide,by decide,by decide,fun M hM=>?_⟩;have MR:H M=none:=s0.free hM;have e7:(List.replicate (7:Int).toNat [V.int 0]).flatten=aZ (nQ k [] []):=by rfl
  rw [e7];have s1:aB H (upd (upd H p0 (.lst [.int 0])) M (.lst (aZ (nQ k [] [])))):=ax s0 MR;refine ⟨_,rfl,a,rfl,⟨_,s1.seq hS⟩,Bt (K:=K) (a:=a) (xs:=aZ bs) (fun i σ H2=>∃ u v,σ=[some (.int k),some (.ref a),some (.ref M),u,v]∧aB H H2∧H2 M=some (.lst (aZ (nQ k (bs.take i) []))))
   ⟨none,none,rfl,s1,au⟩ (fun i σ H2 _ ⟨_,_,_,s2,_⟩=>s2.seq hS) (fun i x σ H2 hx hp=>?_) fun σ H2 hp=>?_⟩
  ·obtain ⟨u,v,rfl,s2,hm⟩:=hp;obtain ⟨b,Rr,rfl⟩:=eE hx;have hi:i < bs.length:=(List.getElem?_eq_some_iff.mp Rr).1;refine ⟨_,rfl,_,rfl,k,b,rfl,xX,hb b (List.mem_of_getElem? Rr),fun r H3 s3 xT Jz=>?_⟩;have Vy:M≠r:=bf hm xT;refine ⟨r,rfl,⟨_,bU.of Jz⟩,Bt (K:=K) (a:=r) (xs:=aZ (kr k b)) (fun j σ H4=>∃ v,σ=[some (.int k),some (.ref a),some (.ref M),some (.int b),v]∧aB H H4∧H4 r=some (.lst (aZ (kr k b)))∧H4 M=some (.lst (aZ (nQ k (bs.take i) ((kr k b).take j)))))
    ⟨v,rfl,fun c o e=>s3 c o (s2 c o e),Jz,s3 _ _ hm⟩ (fun j σ H4 _ ⟨_,_,_,h,_⟩=>bU.of h) (fun j y σ H4 hy hp=>?_) fun σ H4 hp=>?_⟩
   ·obtain ⟨v',rfl,s4,wD,Py⟩:=hp;obtain ⟨c,hc,rfl⟩:=eE hy;have S0:=IW (List.mem_of_getElem? hc);have hg:=IX (k:=k) (bs.take i) ((kr k b).take j) S0;have Rl:(aZ (nQ k (bs.take i) ((kr k b).take j)))[c]?=some (V.int ((AR k (bs.take i) c+((kr k b).take j).count c:Nat):Int)):=by rw [List.getElem?_map,hg];rfl
    refine ⟨_,rfl,_,rfl,M,_,c,_,rfl,rfl,bU.of Py,Rl,_,_,rfl,rfl,M,_,_,c,rfl,rfl,Py,?_,?_⟩
    ·unfold Lb;rw [if_pos (by omega),if_pos (by rw [List.length_map,p7];omega),Int.toNat_natCast]
    ·refine ⟨_,rfl,ax s4 MR,by rw [aH Vy.symm];exact wD,?_⟩;have et:(kr k b).take (j+1)=(kr k b).take j++[c]:=by rw [List.take_add_one,hc];rfl
     rw [au,et,Gq _ _ S0,← zJ];rfl
   ·obtain ⟨v',rfl,s4,wD,Py⟩:=hp;refine ⟨_,_,rfl,s4,?_⟩;have et:bs.take (i+1)=bs.take i++[b]:=by rw [List.take_add_one,Rr];rfl
    rw [Py,List.length_map,List.take_length,et,Gr]
  ·obtain ⟨u,v,rfl,s2,hm⟩:=hp;rw [List.length_map,List.take_length,Gs xX] at hm;exact ⟨_,rfl,q M H2 s2 MR hm⟩
end
end NK
set_option exponentiation.threshold 2000
namespace NK
open PySem L2
noncomputable abbrev iW:Stmt:=top 109
theorem hE:ay ["kind","numbers","whole","bits"] ["kind","numbers"] (ak iW):=⟨rfl,rfl,rfl,by decide +kernel,rfl,by decide +kernel,by decide +kernel⟩
noncomputable abbrev mU:Stmt:=top 110
theorem yn:ay ["whole"] ["whole"] (ak mU):=⟨rfl,rfl,rfl,by decide +kernel,rfl,by decide +kernel,by decide +kernel⟩
noncomputable abbrev dZ:Stmt:=top 111
theorem cI:ay ["kind","numbers","signs","size","bits"] ["kind","numbers"] (ak dZ):=⟨rfl,rfl,rfl,by decide +kernel,rfl,by decide +kernel,by decide +kernel⟩
noncomputable abbrev fe:Stmt:=top 112
theorem gM:ay ["kind","numbers","bits"] ["kind","numbers"] (ak fe):=⟨rfl,rfl,rfl,by decide +kernel,rfl,by decide +kernel,by decide +kernel⟩
noncomputable abbrev jr:Stmt:=top 113
theorem tX:ay ["kind","bits"] ["kind","bits"] (ak jr):=⟨rfl,rfl,rfl,by decide +kernel,rfl,by decide +kernel,by decide +kernel⟩
noncomputable abbrev cJ:Stmt:=top 114
theorem fO:ay ["kind","numbers","least","greatest"] ["kind","numbers"] (ak cJ):=⟨rfl,rfl,rfl,by decide +kernel,rfl,by decide +kernel,by decide +kernel⟩
noncomputable abbrev sH:Stmt:=top 115
theorem Cj:ay ["kind","bits"] ["kind","bits"] (ak sH):=⟨rfl,rfl,rfl,by decide +kernel,rfl,by decide +kernel,by decide +kernel⟩
section
variable {P:Program} {w:World} {K:PySem.W.Frag} {mg:Str→Option Value} {base:Heap} {f:Addr} {fd:FuncData} {Z:cg} {H:Hp} {Q:VK} {E:XK} {CF:Addr}
noncomputable def lz (_:cg) (_:PySem.W.Frag):Sp:=fun vs H Q _=>∃ z:Int,vs=[.int z]∧Q (.int (z % 2 ^ 64)) H
theorem yo (T:Ty K mg Z)  (D:aX K mg "lowest_word" mU ["whole"] f fd):ae P w K mg base 1 "lowest_word" ["whole"] (lz Z K):=by
 refine ae.of D yn (fun vs H Q E h=>?_) (fun bJ A outer s H vs Q E hr h=>?_)
 ·obtain ⟨z,rfl,_⟩:=h;rfl
 ·obtain ⟨z,rfl,q⟩:=h;refine ⟨_,(aj (ao (aT hY (pv 0) (aT d4 ar (aM T.jY))))),?_⟩;refine ⟨_,rfl,_,_,rfl,rfl,iP (by decide) (by decide),_,_,rfl,rfl,by show (0:Int) < 1*2 ^ (64:Int).toNat;decide,?_⟩;have e:(1:Int)*2 ^ (64:Int).toNat=2 ^ 64:=by decide
  rw [e];exact q
noncomputable def mm (_:cg) (_:PySem.W.Frag):Sp:=fun vs H Q _=>∃ k b:Nat,vs=[.int k,.int b]∧k≤8∧Vk k b∧Q (.int (placeOf k b)) H
theorem tY (T:Ty K mg Z) (aV:ae P w K mg base 1 "is_broken" ["kind"] cR) (k5:ae P w K mg base 1 "rank" ["kind","bits"] (qN Z K)) (bc:ae P w K mg base 3 "whole_of_bits" ["kind","bits"] jV) (D:aX K mg "place_in_order" jr ["kind","bits"] f fd):ae P w K mg base 4 "place_in_order" ["kind","bits"] (mm Z K):=by
 refine ae.of D tX (fun vs H Q E h=>?_) (fun bJ A outer s H vs Q E hr h=>?_)
 ·obtain ⟨k,b,rfl,_⟩:=h;rfl
 ·obtain ⟨k,b,rfl,xX,hb,q⟩:=h;refine ⟨_,(aj (ao (br (aN (ah aV (hr.mono (by decide)) (aa (pv 0) ag))) (ah k5 (hr.mono (by decide)) (aa (pv 0) (aa (pv 1) ag))) (ah bc (hr.mono (by decide)) (aa (pv 0) (aa (pv 1) ag)))))),?_⟩;refine ⟨_,rfl,k,rfl,_,rfl,?_⟩;unfold placeOf at q;refine lP (fun h6=>?_) (fun h6=>?_)
  ·have hk:Bk k:=by unfold Bk;omega
   rw [if_pos h6] at q;exact ⟨_,rfl,_,rfl,k,b,rfl,hk,q⟩
  ·rw [if_neg h6] at q;exact ⟨_,rfl,_,rfl,k,b,rfl,by omega,hb,q⟩
noncomputable def vB (_:cg) (_:PySem.W.Frag):Sp:=fun vs H Q _=>∃ k b:Nat,vs=[.int k,.int b]∧k≤8∧Vk k b∧Q (.int (Rd18.wide k b)) H
theorem Ck (T:Ty K mg Z) (aV:ae P w K mg base 1 "is_broken" ["kind"] cR) (er:ae P w K mg base 1 "lowest_word" ["whole"] (lz Z K)) (bc:ae P w K mg base 3 "whole_of_bits" ["kind","bits"] jV) (D:aX K mg "end_word" sH ["kind","bits"] f fd):ae P w K mg base 4 "end_word" ["kind","bits"] (vB Z K):=by
 refine ae.of D Cj (fun vs H Q E h=>?_) (fun bJ A outer s H vs Q E hr h=>?_)
 ·obtain ⟨k,b,rfl,_⟩:=h;rfl
 ·obtain ⟨k,b,rfl,xX,hb,q⟩:=h;refine ⟨_,(aj (ao (br (aN (ah aV (hr.mono (by decide)) (aa (pv 0) ag))) (pv 1) (ah er (hr.mono (by decide)) (aa (ah bc (hr.mono (by decide)) (aa (pv 0) (aa (pv 1) ag))) ag))))),?_⟩;refine ⟨_,rfl,k,rfl,_,rfl,?_⟩;unfold Rd18.wide at q;refine lP (fun h6=>?_) (fun h6=>?_)
  ·have hk:Bk k:=by unfold Bk;omega
   rw [if_pos hk.broken] at q;exact ⟨_,rfl,q⟩
  ·have hk:k < 6:=by omega
   rw [if_neg (by rw [eS hk];decide)] at q;refine ⟨_,rfl,_,rfl,k,b,rfl,hk,hb,_,rfl,?_⟩;have e:((Rd18.whole k b % 2 ^ 64).toNat:Int)=Rd18.whole k b % 2 ^ 64:=Int.toNat_of_nonneg (Int.emod_nonneg _ (by decide));rw [e] at q;exact q
noncomputable abbrev kB (_:cg) (_:PySem.W.Frag):Sp:=fun vs H Q _=>∃ (k:Nat) (a:Addr) (bs:List Nat),vs=[.int k,.ref a]∧k≤8∧H a=some (.lst (aZ bs))∧bs.length≤4000∧∀ r H',aB H H'→H' r=some (.lst (aZ (bs.filter fun b=>!cX k b)))→Q (.ref r) H'
theorem vC {k b:Nat} (hk:Bk k):cX k b=decide (Rd18.infinity k < aq k b):=by
 unfold cX;rw [decide_eq_true hk.le,Bool.true_and]
theorem DQ {k b:Nat} (hk:¬ 6≤k):cX k b=false:=by
 unfold cX;rw [decide_eq_false hk,Bool.false_and]
noncomputable def lA:V→Nat
 | .int z=>z.toNat
 | _=>0
theorem AS (l:List Nat) (p:Nat→Bool):((aZ l).filterMap fun v=>if p (lA v)=true then some v else none)=aZ (l.filter p):=by
 induction l with
 | nil=>rfl
 | cons b r ih =>
  unfold aZ at *
  rw [List.map_cons,List.filterMap_cons,List.filter_cons,ih];have e:lA (V.int (b:Int))=b:=rfl;rw [e];cases p b <;> rfl
theorem rg (T:Ty K mg Z) (aV:ae P w K mg base 1 "is_broken" ["kind"] cR) (aD:ae P w K mg base 1 "is_no_number" ["kind","bits"] cW) (D:aX K mg "numbers_in_order" fe ["kind","numbers"] f fd):ae P w K mg base 2 "numbers_in_order" ["kind","numbers"] (kB Z K):=by
 refine ae.of D gM (fun vs H Q E h=>?_) (fun bJ A outer s H vs Q E hr h=>?_)
 ·obtain ⟨k,a,bs,rfl,_⟩:=h;rfl
 ·obtain ⟨k,a,bs,rfl,xX,S1,hl,q⟩:=h;have hS:bU K H a (aZ bs):=bU.of S1;refine ⟨_,(ai (aR (aN (ah aV (hr.mono (by decide)) (aa (pv 0) ag))) (aj (ao (nz (own:=[("bits",2)]) rfl gM.nd (dA (pv 1)) (cq (N:=["kind","numbers","bits"]) (sc:=ak fe) (by decide +kernel)) (fun _ _ _ _ _=>(bZ (i:=2) gM.nd rfl (by first | exact Or.inl rfl | exact Or.inr rfl))) (by intro _ _ _ _ _;exact (tz (eU (aN (ah aD (hr.mono (by decide)) (aa (pv 0) (aa (pv 2) ag))))))) (by intro _ _ _ _ _;exact (pv 2))))) aw)
   (aj (ao (pv 1)))),?_⟩
  refine ⟨_,rfl,k,rfl,_,rfl,?_⟩;refine lP (fun h6=>?_) (fun h6=>?_)
  ·have hk:Bk k:=by unfold Bk;omega
   refine ⟨_,rfl,a,rfl,⟨_,hS⟩,fun D hD=>d5 (fun v=>if (!cX k (lA v))=true then some v else none) hS hD (b8 (by rw [List.length_map];omega)) (fun i x H2 R R0 hx s2 hR h0=>?_) fun H2 s2 rP=>?_⟩
   ·obtain ⟨b,hb,rfl⟩:=eE hx;have e:cX k (lA (V.int (b:Int)))=decide (Rd18.infinity k < aq k b):=vC hk;rw [e] at hR h0;refine ⟨rfl,_,rfl,_,rfl,k,b,rfl,hk,_,rfl,?_⟩;refine iA (fun hn=>?_) (fun hn=>?_)
    ·exact ⟨_,rfl,hR _ H2 (aB.refl _) (by rw [decide_eq_false hn];rfl)⟩
    ·exact h0 (by rw [decide_eq_true hn];rfl) H2 (aB.refl _)
   ·rw [AS bs fun b=>!cX k b] at rP;exact q D H2 s2 rP
  ·refine ⟨_,rfl,q a H (aB.refl H) ?_⟩;have e:bs.filter (fun b=>!cX k b)=bs:=List.filter_eq_self.mpr fun b _=>by rw [DQ h6];rfl
   rw [e];exact S1
theorem OB {k b:Nat} (hk:Bk k):(fz k b).natAbs < 2 ^ 2300:=by
 unfold fz;rw [if_pos hk.le];have fb:=qX (b:=b) hk;have e:=uf (a9 k b) (aS k (aq k b)) (bP k (aq k b)) (-1074);rw [e];refine cz ?_;have:=pk (aS k (aq k b)) (bP k (aq k b) - -1074).toNat;omega
theorem IY {B:Nat}:∀ l:List Int,(∀ z∈l,z.natAbs < B)→l.sum.natAbs≤l.length*B
 | [],_=>by simp
 | z::r,h=>by
  have ih:=IY r fun y hy=>h y (List.mem_cons_of_mem _ hy);have h1:=h z List.mem_cons_self;rw [List.sum_cons,List.length_cons,Nat.add_mul];have:=Int.natAbs_add_le z r.sum;omega
theorem Gu (l:List Int):∀ a,l.foldl (· + ·) a=a+l.sum:=by
 induction l with
 | nil=>intro a;simp
 | cons z r ih=>intro a;rw [List.foldl_cons,ih,List.sum_cons];omega
theorem kM {α:Type} (l:List Nat) (g:Nat→α) (c:α→V):((aZ l).filterMap fun v=>some (c (g (lA v))))=(l.map g).map c:=by
 unfold aZ;rw [List.filterMap_map,List.map_map];have:(fun v=>some (c (g (lA v))))∘(fun (b:Nat)=>V.int b)=fun b=>some (c (g b)):=rfl;rw [this,List.filterMap_eq_map'];rfl
noncomputable def jt (k:Nat) (bs:List Nat):List V:=(signsOf k bs).map fun s=>V.int (sg s)
theorem DR (k:Nat) (bs:List Nat):((aZ bs).filterMap fun v=>if nZ k (lA v)=true then some (V.int (sg (a9 k (lA v)))) else none)=jt k bs:=by
 unfold jt signsOf;induction bs with
 | nil=>rfl
 | cons b r ih =>
  unfold aZ at *
  rw [List.map_cons,List.filterMap_cons,List.filter_cons];have e:lA (V.int (b:Int))=b:=rfl;rw [e];cases nZ k b with
  | true=>simp only [if_true,List.map_cons];rw [ih]
  | false=>simp only [Bool.false_eq_true,if_false];rw [ih]
theorem zN (k:Nat) (bs:List Nat) (s:Bool):FJ (.int (sg s)) (jt k bs)=decide (s∈signsOf k bs):=by
 unfold FJ jt;rw [List.any_map,Bool.eq_iff_iff,List.any_eq_true,decide_eq_true_eq];constructor
 ·rintro ⟨y,hy,e⟩;have e:(sg y == sg s)=true:=e;have:y=s:=by cases y <;> cases s <;> simp [sg] at e ⊢
  rw [← this];exact hy
 ·intro h;exact ⟨s,h,by show (sg s == sg s)=true;simp⟩
theorem j0 (k:Nat) (bs:List Nat):(jt k bs).all pF=true:=by
 unfold jt;rw [List.all_map];simp [pF]
noncomputable abbrev nR (_:cg) (K:PySem.W.Frag):Sp:=fun vs H Q _=>∃ (k:Nat) (a:Addr) (bs:List Nat),vs=[.int k,.ref a]∧Bk k∧bU K H a (aZ bs)∧bs.length≤4000∧(∀ b∈bs,Vk k b)∧pX (G7 k bs) H Q
theorem u4 (T:Ty K mg Z) (aF:ae P w K mg base 3 "bits_of_finite" ["kind","number","way"] (fW Z.CF)) (bt:ae P w K mg base 1 "sign_of" ["kind","bits"] fM) (bh:ae P w K mg base 1 "with_sign" ["kind","sign","bits"] c8) (aD:ae P w K mg base 1 "is_no_number" ["kind","bits"] cW) (az:ae P w K mg base 1 "is_infinite" ["kind","bits"] cb) (df:ae P w K mg base 4 "finest_size" ["kind","bits"] (iV Z K)) (bG:lO P w K mg base 1 "Finite" Z.CF ["sign","size","power"]) (D:aX K mg "double_of_sum" dZ ["kind","numbers"] f fd):ae P w K mg base 5 "double_of_sum" ["kind","numbers"] (nR Z K):=by
  refine ae.of D cI (fun vs H Q E h=>?_) (fun bJ A outer s H vs Q E hr h=>?_)
  · obtain ⟨k,a,bs,rfl,_⟩:=h;rfl
  · obtain ⟨k,a,bs,rfl,hk,hS,hl,hb,q⟩:=h;have h8:Bk 8:=.inr (.inr rfl);refine ⟨_,(ai (aR (aN (bA (Mi rfl) (by rfl) T.EO MD (aa (nz (own:=[("bits",4)]) rfl cI.nd (dA (pv 1)) (cq (N:=["kind","numbers","signs","size","bits"]) (sc:=ak dZ) (by decide +kernel)) (fun _ _ _ _ _=>(bZ (i:=4) cI.nd rfl (by first | exact Or.inl rfl | exact Or.inr rfl))) (by intro _ _ _ _ _;exact eA) (by intro _ _ _ _ _;exact (ah aD (hr.mono (by decide)) (aa (pv 0) (aa (pv 4) ag))))) ag))) (aj (ao (bo T.bE (aM T.jX)))) aw)
      (ai (jT (i:=2) (own:=[("bits",4)]) rfl cI.nd rfl rfl (l8 rfl rfl (by rfl) (by rfl)) (dA (pv 1)) (cq (N:=["kind","numbers","signs","size","bits"]) (sc:=ak dZ) (by decide +kernel)) (fun _ _ _ _ _=>(bZ (i:=4) cI.nd rfl (by first | exact Or.inl rfl | exact Or.inr rfl))) (by intro _ _ _ _ _;exact (tz (aN (ah az (hr.mono (by decide)) (aa (pv 0) (aa (pv 4) ag)))))) (by intro _ _ _ _ _;exact (ah bt (hr.mono (by decide)) (aa (pv 0) (aa (pv 4) ag)))))
      (ai (aR (PW.pt (fK (aG qH ar (pv 2) (by rfl)) (gx (aG qH ar (pv 2) (by rfl))))) (aj (ao (bo T.bE (aM T.jX)))) aw)
      (ai (aR (aG Bu (bA b9 (by rfl) T.kz jh (aa (pv 2) ag)) ar (aJ _)) (aj (ao (ah bh (hr.mono (by decide)) (aa (aM T.jX) (aa (bu aU (pv 2) ar (fun _ _=>rfl)) (aa (bo T.cj (aM T.jX)) ag)))))) aw)
      (ai (aO (i:=3) cI.nd rfl (by first | exact Or.inl rfl | exact Or.inr rfl) (bA (HJ rfl) (by rfl) T.B9 Ij (aa (nz (own:=[("bits",4)]) rfl cI.nd (dA (pv 1)) (cq (N:=["kind","numbers","signs","size","bits"]) (sc:=ak dZ) (by decide +kernel)) (fun _ _ _ _ _=>(bZ (i:=4) cI.nd rfl (by first | exact Or.inl rfl | exact Or.inr rfl))) (by intro _ _ _ _ _;exact eA) (by intro _ _ _ _ _;exact (ah df (hr.mono (by decide)) (aa (pv 0) (aa (pv 4) ag))))) ag)))
      (aj (ao (ah aF (hr.mono (by decide)) (aa (aM T.jX) (aa (dQ bG (hr.mono (by decide)) (aa (br (aG vj (pv 3) ar (aJ _)) ar ar) (aa (bA xa (by rfl) T.zG Dl (aa (pv 3) ag)) (aa (aM T.dJ) ag)))) (aa (aM T.cT) ag))))))))))),?_⟩
    have Lq:(aZ bs).length≤sizeLine:=b8 (by rw [List.length_map];omega);unfold G7 at q
    -- any([..])
    refine ⟨_,rfl,a,rfl,⟨_,hS⟩,fun D hD=>d5 (fun v=>some (V.bl (cX k (lA v)))) hS hD Lq (fun i x H2 R R0 hx s2 hR h0=>?_) fun H2 s2 rP=>?_⟩
    · obtain ⟨b,uq,rfl⟩:=eE hx;refine ⟨rfl,?_⟩;have kP:=hR _ H2 (aB.refl _) rfl;have e:cX k (lA (V.int (b:Int)))=decide (Rd18.infinity k < aq k b):=vC hk;rw [e] at kP;exact eO (B:=R0 H2) ⟨_,rfl,_,rfl,k,b,rfl,hk,kP⟩
    · rw [kM bs (cX k) V.bl] at rP;have ea:((bs.map (cX k)).any id)=bs.any (cX k):=by rw [List.any_map];rfl
      refine ⟨D,bs.map (cX k),rfl,bU.of rP,_,rfl,kJ (fun hn=>?_) (fun hn=>?_)⟩
      · rw [ea] at hn;rw [if_pos hn] at q;exact ⟨8,_,rfl,gd h8,q H2 s2⟩
      · rw [ea] at hn;rw [if_neg (by rw [hn];decide)] at q;have Gv:=s2.seq hS
        -- signs=[..]
        refine ⟨_,rfl,a,rfl,⟨_,Gv⟩,fun D2 Rt=>d5 (fun v=>if nZ k (lA v)=true then some (V.int (sg (a9 k (lA v)))) else none) Gv Rt Lq (fun i x H3 R R0 hx s3 hR h0=>?_) fun H3 s3 wq=>?_⟩
        · obtain ⟨b,uq,rfl⟩:=eE hx;have e:nZ k (lA (V.int (b:Int)))=decide (aq k b=Rd18.infinity k):=by unfold nZ;rw [decide_eq_true hk.le,Bool.true_and];rfl
          rw [e] at hR h0;refine ⟨rfl,_,rfl,_,rfl,k,b,rfl,hk,_,rfl,lP (fun hi=>?_) (fun hi=>?_)⟩
          · exact ⟨_,rfl,_,rfl,k,b,rfl,hk,hR _ H3 (aB.refl _) (by rw [decide_eq_true hi];rfl)⟩
          · exact h0 (by rw [decide_eq_false hi];rfl) H3 (aB.refl _)
        · rw [DR] at wq;have Pz:aB H H3:=s2.trans s3;have Kv:=Pz.seq hS;have i0:=zN k bs false;have i1:=zN k bs true;by_cases hc:false∈signsOf k bs∧true∈signsOf k bs
          · rw [if_pos hc] at q;rw [decide_eq_true hc.1] at i0;rw [decide_eq_true hc.2] at i1;refine ⟨_,rfl,D2,_,rfl,.inl (bU.of wq),rfl,j0 k bs,_,rfl,kJ (fun h0=>?_) (fun h0=>?_)⟩
            · refine ⟨_,rfl,D2,_,rfl,.inl (bU.of wq),rfl,j0 k bs,_,rfl,kJ (fun h1=>?_) (fun h1=>?_)⟩
              · exact ⟨8,_,rfl,gd h8,q H3 Pz⟩
              · have h1:FJ (.int (sg true)) (jt k bs)=false:=h1;rw [i1] at h1;cases h1
            · have h0:FJ (.int (sg false)) (jt k bs)=false:=h0;rw [i0] at h0;cases h0
          · rw [if_neg hc] at q;have two:(false∈signsOf k bs∧¬ true∈signsOf k bs)∨¬ false∈signsOf k bs:=by
              by_cases h:false∈signsOf k bs
              · exact .inl ⟨h,fun h2=>hc ⟨h,h2⟩⟩
              · exact .inr h
            rcases two with ⟨c0,c1⟩ | c0;all_goals first
              | (rw [decide_eq_false c1] at i1
                 rw [decide_eq_true c0] at i0;refine ⟨_,rfl,D2,_,rfl,.inl (bU.of wq),rfl,j0 k bs,_,rfl,kJ (fun h0=>?_) (fun h0=>by have h0:FJ (.int (sg false)) (jt k bs)=false:=h0;rw [i0] at h0;cases h0)⟩;refine ⟨_,rfl,D2,_,rfl,.inl (bU.of wq),rfl,j0 k bs,_,rfl,kJ (fun h1=>by have h1:FJ (.int (sg true)) (jt k bs)=true:=h1;rw [i1] at h1;cases h1) (fun h1=>?_)⟩)
              | (rw [decide_eq_false c0] at i0
                 refine ⟨_,rfl,D2,_,rfl,.inl (bU.of wq),rfl,j0 k bs,_,rfl,kJ (fun h0=>by have h0:FJ (.int (sg false)) (jt k bs)=true:=h0;rw [i0] at h0;cases h0) (fun h0=>ux ?_)⟩)
            all_goals
              refine ⟨_,rfl,D2,_,rfl,.inl (bU.of wq),_,_,rfl,rfl,_,rfl,lP (fun hlen=>?_) (fun hlen=>?_)⟩
              · -- an infinity
                unfold jt at wq hlen;cases PB:signsOf k bs with
                | nil=>rw [PB] at hlen;exact absurd hlen (by decide)
                | cons sn rs =>
                  rw [PB] at q wq;exact ⟨_,rfl,D2,_,0,_,rfl,rfl,bU.of wq,aI (j:=0) rfl,8,_,rfl,eG h8,Cc (k:=8) (E:=E0) h8 (q H3 Pz)⟩
              · have MZ:signsOf k bs=[]:=by
                  cases PB:signsOf k bs with
                  | nil=>rfl
                  | cons sn rs=>exact absurd (by unfold jt;rw [PB];simp) hlen
                rw [MZ] at q;have q:pX ((Rd18.rounded 8 0 (decide (sumZ k bs < 0)) (sumZ k bs).natAbs (-1074):Nat):Int) H Q:=q
                -- size=sum([..])
                refine ⟨_,rfl,a,rfl,⟨_,Kv⟩,fun D4 Ru=>d5 (fun v=>some (V.int (fz k (lA v)))) Kv Ru Lq (fun i x H4 R R0 hx s4 hR h0=>?_) fun H4 s4 Nn=>?_⟩
                · obtain ⟨b,uq,rfl⟩:=eE hx;refine ⟨rfl,?_⟩;exact eO (B:=R0 H4) ⟨_,rfl,_,rfl,k,b,rfl,by have:=hk.le;rcases hk with rfl | rfl | rfl <;> decide,hb b (List.mem_of_getElem? uq),fun H5 s5=>hR _ H5 s5 rfl⟩
                · rw [kM bs (fz k) V.int] at Nn;refine ⟨D4,bs.map (fz k),rfl,bU.of Nn,?_⟩;have S2:=Pz.trans s4;have Nk:(sumZ k bs).natAbs≤bs.length*2 ^ 2300:=by
                    have:=IY (B:=2 ^ 2300) (bs.map (fz k)) fun z hz=>by
                      obtain ⟨b,_,rfl⟩:=List.mem_map.mp hz;exact OB hk
                    rwa [List.length_map] at this
                  have K3:bq (sumZ k bs).natAbs≤60000:=by
                    have h1:bs.length*2 ^ 2300 < 2 ^ 2320:=by
                      have e:(2:Nat) ^ 2320=2 ^ 20*2 ^ 2300:=by rw [← Nat.pow_add]
                      rw [e];exact Nat.mul_lt_mul_of_pos_right (Nat.lt_of_le_of_lt hl (by decide)) (Nat.two_pow_pos _)
                    have:=bK (Nat.lt_of_le_of_lt Nk h1);omega
                  have bd:Ll (sumZ k bs).natAbs (-1074):=⟨K3,by decide,by decide⟩;have e2:(if sumZ k bs < 0 then -sumZ k bs else sumZ k bs)=((sumZ k bs).natAbs:Int):=by split <;> omega
                  have Vz:(bs.map (fz k)).sum=sumZ k bs:=rfl;rw [Vz];generalize sumZ k bs=z at *
                  refine ⟨_,rfl,_,_,rfl,rfl,_,rfl,lP (fun hz=>?_) (fun hz=>?_)⟩
                  · refine ⟨_,rfl,_,rfl,rfl,x8 (neg:=decide (z < 0)) (m:=z.natAbs) (e:=-1074) ?_ (congrArg V.int e2) rfl fun y H5 s5 hy=>eJ (k:=8) (E:=E0) h8 hy bd (q _ (S2.trans s5))⟩;simp [sg,hz]
                  · refine ⟨_,rfl,_,rfl,rfl,x8 (neg:=decide (z < 0)) (m:=z.natAbs) (e:=-1074) ?_ (congrArg V.int e2) rfl fun y H5 s5 hy=>eJ (k:=8) (E:=E0) h8 hy bd (q _ (S2.trans s5))⟩;simp [sg,hz]
noncomputable def wordsOf (k:Nat) (bs:List Nat):List Nat:=if Rd18.broken k=true then [G7 k bs,0] else
 [(((bs.map (Rd18.whole k)).foldl (· + ·) 0) % (2 ^ 128:Int)).toNat % 2 ^ 64,(((bs.map (Rd18.whole k)).foldl (· + ·) 0) % (2 ^ 128:Int)).toNat / 2 ^ 64]
noncomputable abbrev oW (_:cg) (K:PySem.W.Frag):Sp:=fun vs H Q _=>∃ (k:Nat) (a:Addr) (bs:List Nat),vs=[.int k,.ref a]∧k≤8∧bU K H a (aZ bs)∧bs.length≤4000∧(∀ b∈bs,Vk k b)∧IU (aZ (wordsOf k bs)) H Q
theorem vQ (T:Ty K mg Z) (aV:ae P w K mg base 1 "is_broken" ["kind"] cR) (er:ae P w K mg base 1 "lowest_word" ["whole"] (lz Z K)) (kj:ae P w K mg base 5 "double_of_sum" ["kind","numbers"] (nR Z K)) (bc:ae P w K mg base 3 "whole_of_bits" ["kind","bits"] jV) (D:aX K mg "words_of_sum" iW ["kind","numbers"] f fd):ae P w K mg base 6 "words_of_sum" ["kind","numbers"] (oW Z K):=by
 refine ae.of D hE (fun vs H Q E h=>?_) (fun bJ A outer s H vs Q E hr h=>?_)
 ·obtain ⟨k,a,bs,rfl,_⟩:=h;rfl
 ·obtain ⟨k,a,bs,rfl,xX,hS,hl,hb,q⟩:=h;refine ⟨_,(ai (aR (aN (ah aV (hr.mono (by decide)) (aa (pv 0) ag))) (aj (ao (aP (aa (ah kj (hr.mono (by decide)) (aa (pv 0) (aa (pv 1) ag))) (aa ar ag))))) aw)
   (ai (aO (i:=2) hE.nd rfl (by first | exact Or.inl rfl | exact Or.inr rfl) (bA (HJ rfl) (by rfl) T.B9 Ij (aa (nz (own:=[("bits",3)]) rfl hE.nd (dA (pv 1)) (cq (N:=["kind","numbers","whole","bits"]) (sc:=ak iW) (by decide +kernel)) (fun _ _ _ _ _=>(bZ (i:=3) hE.nd rfl (by first | exact Or.inl rfl | exact Or.inr rfl))) (by intro _ _ _ _ _;exact eA) (by intro _ _ _ _ _;exact (ah bc (hr.mono (by decide)) (aa (pv 0) (aa (pv 3) ag))))) ag)))
   (aj (ao (aP (aa (ah er (hr.mono (by decide)) (aa (pv 2) ag)) (aa (ah er (hr.mono (by decide)) (aa (aT z6 (pv 2) (aM T.jY)) ag)) ag))))))),?_⟩
  have Lq:(aZ bs).length≤sizeLine:=b8 (by rw [List.length_map];omega);unfold wordsOf at q;refine ⟨_,rfl,k,rfl,_,rfl,lP (fun h6=>?_) (fun h6=>?_)⟩
  ·have hk:Bk k:=by unfold Bk;omega
   rw [if_pos hk.broken] at q;exact ⟨_,rfl,_,rfl,k,a,bs,rfl,hk,hS,hl,hb,fun H1 s1=>⟨by show 2≤sizeLine;decide,fun p hp=>q p _ (ax s1 (s1.free hp)) (s1.free hp) au⟩⟩
  ·have hk:k < 6:=by omega
   rw [if_neg (by rw [eS hk];decide)] at q;refine ⟨_,rfl,a,rfl,⟨_,hS⟩,fun D hD=>d5 (fun v=>some (V.int (Rd18.whole k (lA v)))) hS hD Lq (fun i x H2 R R0 hx s2 hR h0=>?_) fun H2 s2 rP=>?_⟩
   ·obtain ⟨b,uq,rfl⟩:=eE hx;refine ⟨rfl,?_⟩;exact eO (B:=R0 H2) ⟨_,rfl,_,rfl,k,b,rfl,hk,hb b (List.mem_of_getElem? uq),hR _ H2 (aB.refl _) rfl⟩
   ·rw [kM bs (Rd18.whole k) V.int] at rP;refine ⟨D,bs.map (Rd18.whole k),rfl,bU.of rP,?_⟩;rw [Gu,Int.zero_add] at q;have we:=G8 (bs.map (Rd18.whole k)).sum;generalize (bs.map (Rd18.whole k)).sum=z at *
    simp only [List.map_cons,List.map_nil,List.cons.injEq,and_true] at we;refine ⟨_,rfl,z,rfl,_,rfl,_,_,rfl,rfl,by show (0:Int)≤64;decide,z / 2 ^ (64:Int).toNat,rfl,by show 2≤sizeLine;decide,fun p hp=>?_⟩;have e:z / 2 ^ (64:Int).toNat % 2 ^ 64=z / 2 ^ 64 % 2 ^ 64:=rfl;rw [e,← we.1,← we.2];exact q p _ (ax s2 (s2.free hp)) (s2.free hp) au
end
end NK
namespace L2
open PySem PySem.Spec PyProof.Rows
section
variable {P:Program} {w:World} {K:PySem.W.Frag} {mg:Str→Option Value} {base:Heap} {k:Nat} {x:Str} {ps N:List Str} {sp:Sp} {st:Stmt} {f:Addr} {fd:FuncData}
theorem ae.Lr (D:aX K mg x st ps f fd) (S:ay N ps (ak st)) (len:∀ vs H Q E,sp vs H Q E→vs.length=ps.length)
  (jR:∀ (bJ:Value),fd.code=bJ→∀ (A:Around) (outer:List Env) (s:Shared) (H:Hp) (vs:List V) (Q:VK) (E:XK),eu k (A.deeper (envOfC x (ak st) s.heap.objs.size f bJ))→sp vs H Q E →
   ∃ t,Br (uo Bc P w K mg base N x (ak st) f bJ A outer s H E).JV (gZ st) t∧t { nx:=fun _ H'=>Q .dR H',rt:=Q } (start N vs) H):ae P w K mg base (k+1) x ps sp:=by
 refine ⟨f,fd,D.2.1,D.1.kp,D.2.2,?_⟩;obtain ⟨oc,od,kV,doc,pm,an,bJ,ct,FA,rfl,lk,nW⟩:=D.1.ex;refine La lk nW S len fun A outer s H vs Q E hr Cw=>?_;obtain ⟨t,h,q⟩:=jR bJ rfl A outer s H vs Q E hr Cw;exact ⟨t,h.JV,q⟩
theorem y8 {N ps:List Str} {sc:Scope} (h1:sc.kind=.function) (h2:sc.isCoroutine=false) (h3:sc.isGenerator=false) (nd:N.Nodup) (pre:N.take ps.length=ps) (par:∀ x∈ps,sc.names.lookup x=some .local)
  (Q5:∀ x∈N.drop ps.length,sc.names.lookup x=some .free) (nc:∀ y∈sc.names,y.2≠.cell):pK N ps sc :=
 ⟨h1,h2,h3,nd,pre,par,fun i x hx hi=>Q5 x (List.mem_of_getElem? (i:=i - ps.length) (by rw [List.getElem?_drop];rw [show ps.length+(i - ps.length)=i by omega];exact hx)),nc⟩
theorem mV {qual:Str} {sc scope:Scope} {L f:Addr} {bJ:Value} (h:∀ y∈scope.names,y.2=.free→sc.names.lookup y.1=some .cell):∀ y∈scope.names,y.2=.free→∃ c,(envOfC qual sc L f bJ).cells.lookup y.1=some c :=
 fun y hy e=>Option.isSome_iff_exists.mp (PySem.W.cellsFrom_some _ _ _ (.inl (h y hy e)))
theorem jK {qual:Str} {sc:Scope} {L f:Addr} {bJ:Value} {l:List Str} (h:∀ n∈l,sc.names.lookup n=some .cell):∀ n∈l,(envOfC qual sc L f bJ).kindOf n=some .cell:=h
end
end L2
namespace NK
open PySem L2
noncomputable abbrev vD (x:Str) (st:Stmt):Str:=(PyProof.Rows.envOfC x (ak st) 0 0 .none).qual++"<lambda>"
noncomputable abbrev EW:Str:=vD "least_and_greatest" cJ
section
variable {P:Program} {w:World} {K:PySem.W.Frag} {mg:Str→Option Value} {base:Heap} {f:Addr} {fd:FuncData} {Z:cg} {H:Hp} {Q:VK} {E:XK} {CF:Addr}
noncomputable abbrev AU:List V→Sp:=fun dH vs H Q _=>∃ k b:Nat,dH=[.int k]∧vs=[.int b]∧k≤8∧Vk k b∧Q (.int (placeOf k b)) H
noncomputable def DS (k:Nat):V→Int:=fun v=>placeOf k (lA v)
theorem IZ (k:Nat) (l:List Nat):∀ m:Nat,jF (DS k) (.int m) (aZ l)=.int ((l.foldl (fun m b=>if placeOf k b < placeOf k m then b else m) m:Nat):Int):=by
 unfold jF;induction l with
 | nil=>intro m;rfl
 | cons b r ih =>
  intro m;unfold aZ at *
  rw [List.map_cons,List.foldl_cons,List.foldl_cons];have e:(if DS k (V.int (b:Int)) < DS k (V.int (m:Int)) then V.int (b:Int) else V.int (m:Int))=V.int ((if placeOf k b < placeOf k m then b else m:Nat):Int):=by
   have e1:DS k (V.int (b:Int))=placeOf k b:=rfl;have e2:DS k (V.int (m:Int))=placeOf k m:=rfl;rw [e1,e2];split <;> rfl
  rw [e];exact ih _
theorem Ja (k:Nat) (l:List Nat):∀ m:Nat,jG (DS k) (.int m) (aZ l)=.int ((l.foldl (fun m b=>if placeOf k m < placeOf k b then b else m) m:Nat):Int):=by
 unfold jG;induction l with
 | nil=>intro m;rfl
 | cons b r ih =>
  intro m;unfold aZ at *
  rw [List.map_cons,List.foldl_cons,List.foldl_cons];have e:(if DS k (V.int (m:Int)) < DS k (V.int (b:Int)) then V.int (b:Int) else V.int (m:Int))=V.int ((if placeOf k m < placeOf k b then b else m:Nat):Int):=by
   have e1:DS k (V.int (b:Int))=placeOf k b:=rfl;have e2:DS k (V.int (m:Int))=placeOf k m:=rfl;rw [e1,e2];split <;> rfl
  rw [e];exact ih _
theorem yp {p:Nat→Prop} {g:Nat→Nat→Bool}:∀ (l:List Nat) (m:Nat),p m→(∀ b∈l,p b)→p (l.foldl (fun m b=>if g m b=true then b else m) m)
 | [],m,h,_=>h
 | b::r,m,h,hl=>by
  rw [List.foldl_cons];refine yp r _ ?_ fun c hc=>hl c (List.mem_cons_of_mem _ hc);split
  ·exact hl b List.mem_cons_self
  ·exact h
noncomputable abbrev je (Z:cg) (K:PySem.W.Frag):Sp:=fun vs H Q _=>∃ (k:Nat) (a:Addr) (bs:List Nat),vs=[.int k,.ref a]∧k≤8∧H a=some (.lst (aZ bs))∧bs≠[]∧(∀ b∈bs,Vk k b)∧fR H Z.rD EW ∧
 ∀ r H',(∀ b o,H b=some o→b≠Z.rD→H' b=some o)→fR H' Z.rD EW→H r=none→H' r=some (.lst (aZ [Rd18.wide k (n4 (placeOf k) bs),Rd18.wide k (rT (placeOf k) bs)]))→Q (.ref r) H'
theorem DT {T:Addr} {q:Str} {a:Addr} {xs:List V} (hT:fR H T q) (hS:H a=some (.lst xs)):a≠T:=fun z=>by
 obtain ⟨ps,hp,_⟩:=hT;subst z;rw [hp] at hS;cases hS
theorem pb (T:Ty K mg Z) (gE:ae P w K mg base 4 "place_in_order" ["kind","bits"] (mm Z K)) (oE:ae P w K mg base 4 "end_word" ["kind","bits"] (vB Z K)) (L:j7 mg base fd.code Z.rD)
    (D:aX K mg "least_and_greatest" cJ ["kind","numbers"] f fd):ae P w K mg base 8 "least_and_greatest" ["kind","numbers"] (je Z K):=by
  refine ae.Lr D fO (fun vs H Q E h=>?_) (fun bJ nW A outer s H vs Q E hr h=>?_)
  · obtain ⟨k,a,bs,rfl,_⟩:=h;rfl
  · obtain ⟨k, a, bs, rfl, xX, hS, kW, hb, hT, q⟩ := h;subst nW;refine ⟨_, (ai (aO (i := 2) fO.nd rfl (by first | exact Or.inl rfl | exact Or.inr rfl) (Iv (j := 4) (js := [0]) (N := ["bits", "kind"]) (qs := ["bits"]) (ls := AU) (best := jF) (T := Z.rD) (hr.mono (by decide)) (by rfl) T.xC Am (fun hh e kt hL I hl hR => Ks hh e kt hL I hl hR) (aa (pv 1) ag) L rfl (y8 rfl rfl rfl (by decide +kernel) rfl (by decide +kernel) (by decide +kernel) (by decide +kernel)) rfl (mV (by decide +kernel)) (by rfl) (by decide +kernel) (jK (sc := ak cJ) (by decide +kernel)) (fun dH vs H Q E h => by obtain ⟨_, _, _, rfl, _⟩ := h; rfl) (fun cl pm bJ ct us hl => match us, hl with | [_], _ => rfl)
          (fun dH fl cl A outer cd s H vs Q E hN hr h=>by
            obtain ⟨k,b,rfl,rfl,hk,hb,q⟩:=h;exact ⟨_,ah gE (hr.mono (by decide)) (aa (pv 1) (aa (pv 0) ag)),_,rfl,_,rfl,k,b,rfl,hk,hb,q⟩)))
      (ai (aO (i:=3) fO.nd rfl (by first | exact Or.inl rfl | exact Or.inr rfl) (Iv (j:=4) (js:=[0]) (N:=["bits","kind"]) (qs:=["bits"]) (ls:=AU) (best:=jG) (T:=Z.rD) (hr.mono (by decide)) (by rfl) T.vx xt (fun hh e kt hL I hl hR=>Ku hh e kt hL I hl hR) (aa (pv 1) ag) L rfl (y8 rfl rfl rfl (by decide +kernel) rfl (by decide +kernel) (by decide +kernel) (by decide +kernel)) rfl (mV (by decide +kernel)) (by rfl) (by decide +kernel) (jK (sc:=ak cJ) (by decide +kernel)) (fun dH vs H Q E h=>by obtain ⟨_,_,_,rfl,_⟩:=h;rfl) (fun cl pm bJ ct us hl=>match us,hl with | [_],_=>rfl)
          (fun dH fl cl A outer cd s H vs Q E hN hr h=>by
            obtain ⟨k,b,rfl,rfl,hk,hb,q⟩:=h;exact ⟨_,ah gE (hr.mono (by decide)) (aa (pv 1) (aa (pv 0) ag)),_,rfl,_,rfl,k,b,rfl,hk,hb,q⟩)))
      (aj (ao (aP (aa (ah oE (hr.mono (by decide)) (aa (pv 0) (aa (pv 2) ag))) (aa (ah oE (hr.mono (by decide)) (aa (pv 0) (aa (pv 3) ag))) ag))))))),?_⟩
    obtain ⟨b0,r0,rfl⟩:∃ b r,bs=b::r:=by
      cases bs with
      | nil=>exact absurd rfl kW
      | cons b r=>exact ⟨b,r,rfl⟩
    have key:∀ (H3:Hp) (x:V) (Q':VK),x∈aZ (b0::r0)→(∀ H4,aB H3 H4→Q' (.int (DS k x)) H4)→AU [.int k] [x] H3 Q' E0:=by
      intro H3 x Q' hx hq;obtain ⟨b,rE,rfl⟩:=List.mem_map.mp hx;exact ⟨k,b,rfl,rfl,xX,hb b rE,hq H3 (aB.refl _)⟩
    have vl:Vk k (n4 (placeOf k) (b0::r0)):=by
      have:=yp (p:=Vk k) (g:=fun m b=>decide (placeOf k b < placeOf k m)) (b0::r0) b0 (hb _ List.mem_cons_self) hb;simpa [n4] using this
    have vm:Vk k (rT (placeOf k) (b0::r0)):=by
      have:=yp (p:=Vk k) (g:=fun m b=>decide (placeOf k m < placeOf k b)) (b0::r0) b0 (hb _ List.mem_cons_self) hb;simpa [rT] using this
    have bm:jF (DS k) (.int b0) (aZ (b0::r0))=.int ((n4 (placeOf k) (b0::r0):Nat):Int):=IZ k (b0::r0) b0;have bM:jG (DS k) (.int b0) (aZ (b0::r0))=.int ((rT (placeOf k) (b0::r0):Nat):Int):=Ja k (b0::r0) b0;refine ⟨_,rfl,hT,a,.int b0,aZ r0,DS k,[.int k],rfl,bU.of hS,fun o e=>DT hT hS,rfl,key,fun H2 FZ k2=>?_⟩;have Gv:=k2 _ _ hS (DT hT hS);refine ⟨_,rfl,FZ,a,.int b0,aZ r0,DS k,[.int k],rfl,bU.of Gv,fun o e=>DT FZ Gv,rfl,key,fun H3 Ii k3=>?_⟩;refine ⟨_,rfl,_,rfl,k,n4 (placeOf k) (b0::r0),congrArg (fun v=>[V.int (k:Int),v]) bm,xX,vl,?_⟩;refine ⟨_,rfl,_,rfl,k,rT (placeOf k) (b0::r0),congrArg (fun v=>[V.int (k:Int),v]) bM,xX,vm,?_⟩;refine ⟨by show 2≤sizeLine;decide,fun p hp=>?_⟩;have DN:H p=none:=by
      cases hx:H p with
      | none=>rfl
      | some o =>
        by_cases Rv:p=Z.rD
        · subst Rv;obtain ⟨ps,JA,_⟩:=Ii;rw [JA] at hp;cases hp
        · rw [k3 _ _ (k2 _ _ hx Rv) Rv] at hp;cases hp
    have X1:Z.rD≠p:=by
      intro e;subst e;obtain ⟨ps,JA,_⟩:=Ii;rw [JA] at hp;cases hp
    refine q p _ (fun b o e S3=>?_) ?_ DN au
    · rw [aH (bf e DN)];exact k3 _ _ (k2 _ _ e S3) S3
    · exact Ii.of (ax (aB.refl _) hp)
end
noncomputable abbrev mo:Stmt:=top 124
theorem oF:ay ["table","taken","c"] ["table","taken"] (ak mo):=⟨rfl,rfl,rfl,by decide +kernel,rfl,by decide +kernel,by decide +kernel⟩
noncomputable abbrev fg:Stmt:=top 125
theorem eF:ay ["table","taken","only_broken","kind","c"] ["table","taken","only_broken"] (ak fg):=⟨rfl,rfl,rfl,by decide +kernel,rfl,by decide +kernel,by decide +kernel⟩
noncomputable abbrev mW:Stmt:=top 126
theorem yq:ay ["table","rows"] ["table","rows"] (ak mW):=⟨rfl,rfl,rfl,by decide +kernel,rfl,by decide +kernel,by decide +kernel⟩
noncomputable abbrev oG:Stmt:=top 127
theorem y9:ay ["table","c","kind","values"] ["table","c","kind","values"] (ak oG):=⟨rfl,rfl,rfl,by decide +kernel,rfl,by decide +kernel,by decide +kernel⟩
noncomputable abbrev iX:Stmt:=top 128
theorem fH:ay ["table","c","kind","n","numbers","bits","x"] ["table","c","kind","n"] (ak iX):=⟨rfl,rfl,rfl,by decide +kernel,rfl,by decide +kernel,by decide +kernel⟩
noncomputable abbrev gY:Stmt:=top 129
theorem iY:ay ["table","source","to","kind","way","refused","old","numbers"] ["table","source","to","kind","way"] (ak gY):=⟨rfl,rfl,rfl,by decide +kernel,rfl,by decide +kernel,by decide +kernel⟩
noncomputable abbrev lB:Stmt:=top 130
theorem vR:ay ["table","source","to","way","parts"] ["table","source","to","way","parts"] (ak lB):=⟨rfl,rfl,rfl,by decide +kernel,rfl,by decide +kernel,by decide +kernel⟩
noncomputable abbrev mX:Stmt:=top 131
theorem yr:ay ["table","source","to","way","parts"] ["table","source","to","way","parts"] (ak mX):=⟨rfl,rfl,rfl,by decide +kernel,rfl,by decide +kernel,by decide +kernel⟩
noncomputable abbrev gq:Stmt:=top 132
theorem hF:ay ["table","source","to","way","parts","make","refused","kind","numbers"] ["table","source","to","way","parts","make"] (ak gq):=⟨rfl,rfl,rfl,by decide +kernel,rfl,by decide +kernel,by decide +kernel⟩
noncomputable abbrev eM:Stmt:=top 133
theorem fq:ay ["table","source","power","part","refused","kind","powers","parts"] ["table","source","power","part"] (ak eM):=⟨rfl,rfl,rfl,by decide +kernel,rfl,by decide +kernel,by decide +kernel⟩
noncomputable abbrev gu:Stmt:=top 134
theorem hJ:ay ["table","part","power","to","refused","kind","numbers"] ["table","part","power","to"] (ak gu):=⟨rfl,rfl,rfl,by decide +kernel,rfl,by decide +kernel,by decide +kernel⟩
noncomputable abbrev iZ:Stmt:=top 135
theorem jL:ay ["table","op","a","b","to","refused","kind","numbers"] ["table","op","a","b","to"] (ak iZ):=⟨rfl,rfl,rfl,by decide +kernel,rfl,by decide +kernel,by decide +kernel⟩
noncomputable abbrev gv:Stmt:=top 136
theorem hO:ay ["table","a","b","c","to","refused","kind","numbers"] ["table","a","b","c","to"] (ak gv):=⟨rfl,rfl,rfl,by decide +kernel,rfl,by decide +kernel,by decide +kernel⟩
noncomputable abbrev dq:Stmt:=top 137
theorem da:ay ["table","op","a","b","n","kind_a","kind_b","found","held","each"] ["table","op","a","b","n"] (ak dq):=⟨rfl,rfl,rfl,by decide +kernel,rfl,by decide +kernel,by decide +kernel⟩
noncomputable abbrev ju:Stmt:=top 138
theorem tZ:ay ["table","c"] ["table","c"] (ak ju):=⟨rfl,rfl,rfl,by decide +kernel,rfl,by decide +kernel,by decide +kernel⟩
noncomputable abbrev gO:Stmt:=top 139
theorem d8:ay ["table","c","refused","numbers","there"] ["table","c"] (ak gO):=⟨rfl,rfl,rfl,by decide +kernel,rfl,by decide +kernel,by decide +kernel⟩
noncomputable abbrev kl:Stmt:=top 140
theorem jv:ay ["table","c","refused","there"] ["table","c"] (ak kl):=⟨rfl,rfl,rfl,by decide +kernel,rfl,by decide +kernel,by decide +kernel⟩
noncomputable abbrev jw:Stmt:=top 141
theorem fY:ay ["table","c","refused","kind","ordered"] ["table","c"] (ak jw):=⟨rfl,rfl,rfl,by decide +kernel,rfl,by decide +kernel,by decide +kernel⟩
noncomputable abbrev i3:Stmt:=top 142
theorem ft:ay ["table","c","n","mask","old","numbers","row","x"] ["table","c","n","mask"] (ak i3):=⟨rfl,rfl,rfl,by decide +kernel,rfl,by decide +kernel,by decide +kernel⟩
noncomputable abbrev gF:Stmt:=top 143
theorem dt:ay ["table","a","b","n","to","mask","refused","from_a","from_b","numbers","row"] ["table","a","b","n","to","mask"] (ak gF):=⟨rfl,rfl,rfl,by decide +kernel,rfl,by decide +kernel,by decide +kernel⟩
noncomputable abbrev mq:Stmt:=top 144
theorem oH:ay ["table","n","mask","row"] ["table","n","mask"] (ak mq):=⟨rfl,rfl,rfl,by decide +kernel,rfl,by decide +kernel,by decide +kernel⟩
noncomputable abbrev mr:Stmt:=top 145
theorem oJ:ay ["table","which","row"] ["table","which"] (ak mr):=⟨rfl,rfl,rfl,by decide +kernel,rfl,by decide +kernel,by decide +kernel⟩
noncomputable abbrev kK:Stmt:=top 146
theorem mY:ay ["table","kinds","c"] ["table"] (ak kK):=⟨rfl,rfl,rfl,by decide +kernel,rfl,by decide +kernel,by decide +kernel⟩
noncomputable def tabs (Z:cg):List (Addr×Str):=[(Z.IE,vD "cast_column" gY),(Z.DF,vD "round_column" gq),(Z.Ay,vD "split_column" eM),(Z.IF,vD "join_columns" gu),
 (Z.Rh,vD "do_columns" iZ),(Z.IG,vD "more_columns" gv),(Z.MO,vD "compare_columns" dq),(Z.rD,EW)]
noncomputable def u5 (Z:cg) (H:Hp):Prop:=∀ p∈tabs Z,fR H p.1 p.2
noncomputable def GS (H H':Hp):Prop:=∀ b o,H b=some o→((∃ xs,o=.lst xs)∨(∃ u v,o=.jD u v)∨∃ ps,o=.zZ ps)→H' b=some o
theorem GS.kp {H H':Hp} (k:GS H H'):Kp H H':=fun b o e h=>k b o e (h.elim .inl fun h=>.inr (.inl h))
theorem aB.M0 {H H':Hp} (s:aB H H'):GS H H':=fun b o e _=>s b o e
theorem GS.trans {H H1 H2:Hp} (a:GS H H1) (b:GS H1 H2):GS H H2:=fun c o e h=>b c o (a c o e h) h
theorem DU {H H':Hp} {T:Addr} {q:Str} (t:fR H T q) (k:GS H H'):fR H' T q:=by
 obtain ⟨ps,h1,h2,h3⟩:=t;refine ⟨ps,k _ _ h1 (.inr (.inr ⟨_,rfl⟩)),h2,fun pos cv e=>?_⟩;obtain ⟨c,o,vs,t,a,b,d⟩:=h3 pos cv e;exact ⟨c,o,vs,t,a,k _ _ b (.inr (.inl ⟨_,_,rfl⟩)),d⟩
theorem u5.keep {Z:cg} {H H':Hp} (l:u5 Z H) (k:GS H H'):u5 Z H':=fun p hp=>DU (l p hp) k
theorem u5.made {Z:cg} {H H':Hp} {T:Addr} {q:Str} (l:u5 Z H) (nd:((tabs Z).map (·.1)).Nodup) (hm:(T,q)∈tabs Z) (hT:fR H' T q) (k:∀ b o,H b=some o→b≠T→H' b=some o):u5 Z H':=by
 intro p hp;by_cases e:p.1=T
 ·have:p=(T,q):=by
   have inj:∀ (l:List (Addr×Str)),(l.map (·.1)).Nodup→∀ a∈l,∀ b∈l,a.1=b.1→a=b:=by
    intro l;induction l with
    | nil=>intro _ a ha;cases ha
    | cons x r ih =>
     intro nd a ha b hb e;rw [List.map_cons,List.nodup_cons] at nd;rcases List.mem_cons.mp ha with h1 | h1 <;> rcases List.mem_cons.mp hb with h2 | h2
     ·rw [h1,h2]
     ·exact absurd (by rw [← h1,e];exact List.mem_map_of_mem (f:=(·.1)) h2) nd.1
     ·exact absurd (by rw [← h2,← e];exact List.mem_map_of_mem (f:=(·.1)) h1) nd.1
     ·exact ih nd.2 a h1 b h2 e
   exact inj _ nd p hp _ hm e
  rw [this];exact hT
 ·obtain ⟨ps,JA,_⟩:=l _ hm;obtain ⟨qs,h1,h2,h3⟩:=l p hp;refine ⟨qs,k _ _ h1 e,h2,fun pos cv e=>?_⟩;obtain ⟨c,o,vs,t,a,b,d⟩:=h3 pos cv e;exact ⟨c,o,vs,t,a,k _ _ b (fun z=>by rw [z,JA] at b;cases b),d⟩
structure pd (Z:cg) (H:Hp) (t:Addr) (s:Rd18.Abs):Prop where
 tab:∃ d,TabAt Z H t d s
 lam:u5 Z H
theorem pd.same {Z:cg} {H H':Hp} {t:Addr} {s:Rd18.Abs} (h:pd Z H t s) (sm:aB H H'):pd Z H' t s:=by
 obtain ⟨⟨d,tb⟩,l⟩:=h;exact ⟨⟨d,tb.same sm⟩,l.keep (aB.M0 sm)⟩
noncomputable def Gw (a:Rd18.Ans):List V:=.int a.value::aZ a.out
structure After (Z:cg) (H H':Hp) (t:Addr) (y:Rd18.Abs×Rd18.Ans) (r:Addr):Prop where
 ok:pd Z H' t y.1
 kp:Kp H H'
 new:H r=none
 X2:H' r=some (.lst (Gw y.2))
noncomputable abbrev i9 (Z:cg) (t:Addr) (y:Rd18.Abs×Rd18.Ans) (H:Hp) (Q:VK):Prop:=∀ r H',After Z H H' t y r→Q (.ref r) H'
section
variable {P:Program} {w:World} {K:PySem.W.Frag} {mg:Str→Option Value} {base:Heap} {f:Addr} {fd:FuncData} {Z:cg} {H H1:Hp} {Q:VK} {E:XK} {CF t d:Addr} {s:Rd18.Abs}
theorem bQ {y:Rd18.Abs×Rd18.Ans} {l:List V} (ok:pd Z H t s) (s1:aB H H1) (e1:y.1=s) (e2:Gw y.2=l) (q:i9 Z t y H Q):∀ p,H1 p=none→Q (.ref p) (upd H1 p (.lst l)):=fun p hp=>by
 refine q p _ ⟨?_,aB.kp (ax s1 (s1.free hp)),s1.free hp,by rw [au,e2]⟩;rw [e1];exact ok.same (ax s1 (s1.free hp))
theorem oX {ns:List Int} {R:Bool→Hp→Prop} (hl:ns.length≤100) (h:∀ H',aB H H'→R (ns.all fun c=>decide (0≤c∧c≤15)) H') :
  ∀ p,H p=none→bH Z K [.ref p] (upd H p (.lst (ns.map V.int))) (fun x H1=>∃ c,x=.bl c∧R c H1) E0:=fun p hp =>
 ⟨p,ns,rfl,bU.of au,hl,fun H' s'=>⟨_,rfl,h H' (fun b o e=>s' b o (ax (aB.refl H) hp b o e))⟩⟩
theorem Jb {H H':Hp} {t:Addr} {C dx:Addr} {fs:List (Str×V)} (ht:H t=some (.ins C dx fs)) (k:∀ b o,H b=some o→b≠t→H' b=some o):GS H H':=fun b o e h=>by
 refine k b o e (fun z=>?_);subst z;rw [ht] at e;cases e;rcases h with ⟨_,h⟩ | ⟨_,_,h⟩ | ⟨_,h⟩ <;> cases h
theorem t4 {α:Type} (n c:Nat):(List.replicate n (none:Option α)).getD c none=none:=by
 rw [List.getD_eq_getElem?_getD,List.getElem?_replicate];split <;> rfl
theorem EX {a8:List (Key×V)} {c:Nat} {y:Addr} {x:Rd18.Column} (tb:TabAt Z H t d s) (hd:H d=some (.dK a8)) (hc:c < 16) (hy:d7 Z H y x) (wx:AK s.rows x) :
  TabAt Z (upd H d (.dK (putK a8 (Sum.inl (c:Int)) (.ref y)))) t d (Rd18.set_ s c x)∧GS H (upd H d (.dK (putK a8 (Sum.inl (c:Int)) (.ref y))))∧a8.length < sizeLine:=by
 obtain ⟨⟨dx,ht⟩,⟨Rw,Hf,nX⟩,wf⟩:=tb;rw [hd] at Hf;obtain rfl:a8=Rw:=by injection Hf with e;injection e
 have IS:t≠d:=pz ht hd (by intro z;cases z);have keep:∀ p z,d7 Z H p z→d7 Z (upd H d (.dK (putK a8 (Sum.inl (c:Int)) (.ref y)))) p z:=fun p z h=>h.put hd;have BO:(c:Int).toNat=c:=by omega
 have hlen:a8.length≤16:=by
  have h4:∀ k∈a8.map (·.1),k∈(List.range 16).map fun (c:Nat)=>(Sum.inl (c:Int):Key):=fun k hk=>by
   obtain ⟨c,hc,rfl⟩:=nX.keys k hk;exact List.mem_map.mpr ⟨c,List.mem_range.mpr hc,rfl⟩
  have h5:=uX nX.nd h4;rw [List.length_map,List.length_map (f:=fun (c:Nat)=>(Sum.inl (c:Int):Key)),List.length_range] at h5;exact h5
 refine ⟨⟨⟨dx,?_⟩,⟨_,au,?_⟩,?_⟩,?_,Nat.lt_of_le_of_lt hlen (by decide)⟩
 ·rw [aH IS];exact ht
 ·refine ⟨?_,fun k hk=>?_,fun c' Bb=>?_⟩
  ·by_cases hv:fi a8 (Sum.inl (c:Int))=none
   ·exact Kh _ nX.nd hv
   ·unfold putK;rw [iG,if_pos (Option.isSome_iff_ne_none.mpr hv),List.map_map];have:((fun x=>x.1)∘fun (kv:Key×V)=>if kv.1=Sum.inl (c:Int) then (kv.1,V.ref y) else kv)=fun kv=>kv.1:=by funext kv;simp only [Function.comp];split <;> rfl
    rw [this];exact nX.nd
  ·by_cases hv:fi a8 (Sum.inl (c:Int))=none
   ·rw [tD _ hv,List.map_append,List.mem_append] at hk;rcases hk with hk | hk
    ·exact nX.keys k hk
    ·exact ⟨c,hc,by simpa using hk⟩
   ·unfold putK at hk;rw [iG,if_pos (Option.isSome_iff_ne_none.mpr hv),List.map_map] at hk;have:((fun x=>x.1)∘fun (kv:Key×V)=>if kv.1=Sum.inl (c:Int) then (kv.1,V.ref y) else kv)=fun kv=>kv.1:=by funext kv;simp only [Function.comp];split <;> rfl
    rw [this] at hk;exact nX.keys k hk
  ·rw [BQ];show ot Z _ _ ((s.cols.set (c:Int).toNat (some x)).getD c' none);rw [BO];by_cases En:c'=c
   ·subst En;rw [if_pos rfl,List.getD_eq_getElem?_getD,List.getElem?_set_self (by rw [wf.len];exact hc)];exact keep y x hy
   ·have KO:¬ (Sum.inl (c':Int):Key)=Sum.inl (c:Int):=fun e=>En (by have:=Sum.inl.inj e;omega);rw [if_neg KO,List.getD_eq_getElem?_getD,List.getElem?_set_ne (Ne.symm En),← List.getD_eq_getElem?_getD];exact (nX.val c' Bb).of keep
 ·refine ⟨by show (s.cols.set _ _).length=16;rw [List.length_set];exact wf.len,wf.rows,fun c' z hz=>?_⟩;have hz:(s.cols.set (c:Int).toNat (some x)).getD c' none=some z:=hz;rw [BO] at hz;by_cases En:c'=c
  ·subst En;rw [List.getD_eq_getElem?_getD,List.getElem?_set_self (by rw [wf.len];exact hc)] at hz;obtain rfl:x=z:=Option.some.inj hz;exact wx
  ·rw [List.getD_eq_getElem?_getD,List.getElem?_set_ne (Ne.symm En),← List.getD_eq_getElem?_getD] at hz;exact wf.col c' z hz
 ·intro b o e h;refine (aH (fun z=>?_)).trans e;subst z;rw [hd] at e;cases e;rcases h with ⟨_,h⟩ | ⟨_,_,h⟩ | ⟨_,h⟩ <;> cases h
noncomputable abbrev p9 (Z:cg) (_:PySem.W.Frag):Sp:=fun vs H Q _=>∃ (t:Addr) (s:Rd18.Abs) (n:Int),vs=[.ref t,.int n]∧pd Z H t s∧i9 Z t (Rd18.does s (.begin_ n)) H Q
theorem yt (T:Ty K mg Z)  (D:aX K mg "begin_table" mW ["table","rows"] f fd):ae P w K mg base 1 "begin_table" ["table","rows"] (p9 Z K):=by
 refine ae.of D yq (fun vs H Q E h=>?_) (fun bJ A outer s H vs Q E hr h=>?_)
 ·obtain ⟨t,s,n,rfl,_⟩:=h;rfl
 ·obtain ⟨t,s,n,rfl,ok,q⟩:=h;refine ⟨_,(ai (aR (eU (Bv gK gK ar (pv 1) (aM T.fo))) (aj (ao (aP (aa (aM T.bb) ag)))) aw)
   (ai (kU (pv 0) (pv 1) rfl)
   (ai (kU (pv 0) xm rfl)
   (aj (ao (aP (aa (aM T.dB) ag))))))),?_⟩
  simp_arith [];have bad:¬ (1≤n∧n≤2048)→Rd18.does s (.begin_ n)=(s,Rd18.just (-2)):=fun h=>by
   show (if 1≤n∧n≤(Rd18.ROWS:Int) then _ else _)=_;exact if_neg (show ¬ (1≤n∧n≤(Rd18.ROWS:Int)) from h)
  by_cases h1:1≤n
  ·by_cases h2:n≤2048
   ·simp only [h1,h2,decide_true,Bool.not_true,Bool.false_eq_true,if_true,if_false];have hy:Rd18.does s (.begin_ n)=({ rows:=n.toNat },Rd18.just 0):=by
     show (if 1≤n∧n≤(Rd18.ROWS:Int) then _ else _)=_;exact if_pos (show 1≤n∧n≤(Rd18.ROWS:Int) from ⟨h1,h2⟩)
    obtain ⟨⟨d,⟨dx,ht⟩,⟨a8,hd,nX⟩,wf⟩,lam⟩:=ok;refine ⟨_,rfl,_,rfl,t,Z.CT,dx,_,rfl,ht,T.ud,T.AF,by show 2 < 1000;decide,fun d' Hf=>?_⟩;rw [ES] at *
    have IS:t≠d':=fun e=>by rw [← e,au] at Hf;cases Hf
    have Lk:H d'=none:=by rw [aH IS.symm] at Hf;exact Hf
    refine ⟨_,rfl,t,Z.CT,dx,_,rfl,by rw [aH IS,au],T.ud,T.nN,by show 2 < 1000;decide,by show 1≤sizeLine;decide,fun p hp=>?_⟩;rw [AJ] at *
    have Rx:t≠p:=fun e=>by rw [← e,au] at hp;cases hp
    have S4:d'≠p:=fun e=>by rw [← e,aH IS.symm,au] at hp;cases hp
    have DN:H p=none:=by rw [aH Rx.symm,aH S4.symm,aH Rx.symm] at hp;exact hp
    have kp:∀ b o,H b=some o→b≠t→(upd (upd (upd (upd H t (.ins Z.CT dx (fT n d))) d' (.dK [])) t (.ins Z.CT dx (fT n d'))) p (.lst [.int 0])) b=some o:=fun b o e hb=>by
     rw [aH (bf e DN),aH hb,aH (bf e Lk),aH hb];exact e
    have kt:=Jb ht kp;refine q p _ ⟨?_,kt.kp,DN,by rw [hy,au];rfl⟩;rw [hy];refine ⟨⟨d',⟨dx,?_⟩,⟨[],?_,⟨List.nodup_nil,fun k hk=>(by cases hk),fun c hc=>?_⟩⟩,⟨rfl,?_,fun c x hx=>?_⟩⟩,lam.keep kt⟩
    ·rw [aH Rx,au];show some (HO.ins Z.CT dx (fT n d'))=some (HO.ins Z.CT dx (fT ((n.toNat:Nat):Int) d'));rw [Int.toNat_of_nonneg (by omega)]
    ·rw [aH S4,aH IS.symm,au]
    ·show ot Z _ none ((List.replicate 16 none).getD c none);rw [t4];trivial
    ·show n.toNat≤2048;omega
    ·have hx:(List.replicate 16 (none:Option Rd18.Column)).getD c none=some x:=hx;rw [t4] at hx;cases hx
   ·simp only [h1,h2,decide_false,Bool.not_false,if_true];exact ⟨by show 1≤sizeLine;decide,bQ ok (aB.refl H) (by rw [bad (fun h=>h2 h.2)]) (by rw [bad (fun h=>h2 h.2)];rfl) q⟩
  ·simp only [h1,Bool.not_false,if_true,if_false];exact ⟨by show 1≤sizeLine;decide,bQ ok (aB.refl H) (by rw [bad (fun h=>h1 h.1)]) (by rw [bad (fun h=>h1 h.1)];rfl) q⟩
end
noncomputable def cB (s:Rd18.Abs) (c:Nat):Bool:=(s.cols.getD c none).isSome
noncomputable def kindAt (s:Rd18.Abs) (c:Nat):Nat:=((s.cols.getD c none).map fun x=>x.kind).getD 0
noncomputable def cC (s:Rd18.Abs) (cs:List Nat) (only:Bool):Int:=if (cs.all (cB s))=true then (if only=true∧Rd18.broken (kindAt s (cs.headD 0))=false then -4 else if (cs.all fun c=>decide (kindAt s c=kindAt s (cs.headD 0)))=true then 0 else -4) else -3
section
variable {P:Program} {w:World} {K:PySem.W.Frag} {mg:Str→Option Value} {base:Heap} {f:Addr} {fd:FuncData} {Z:cg} {H H1:Hp} {Q:VK} {E:XK} {CF t d:Addr} {s:Rd18.Abs}
theorem ot.isSome {v:Option V} {x:Option Rd18.Column} (h:ot Z H v x):v.isSome=x.isSome:=by
 match v,x,h with
 | none,none,_=>rfl
 | some (.ref p),some x,_=>rfl
noncomputable abbrev i4 (Z:cg) (K:PySem.W.Frag):Sp:=fun vs H Q _=>∃ (t d a:Addr) (s:Rd18.Abs) (cs:List Nat),vs=[.ref t,.ref a]∧TabAt Z H t d s∧bU K H a (aZ cs)∧cs.length≤3∧(∀ c∈cs,c < 16)∧∀ H',aB H H'→Q (.bl (cs.all (cB s))) H'
theorem AV (T:Ty K mg Z)  (D:aX K mg "are_there" mo ["table","taken"] f fd):ae P w K mg base 1 "are_there" ["table","taken"] (i4 Z K):=by
 refine ae.of D oF (fun vs H Q E h=>?_) (fun bJ A outer s H vs Q E hr h=>?_)
 ·obtain ⟨t,d,a,s,cs,rfl,_⟩:=h;rfl
 ·obtain ⟨t,d,a,s,cs,rfl,tb,hS,hl,hc,q⟩:=h;refine ⟨_,(aj (ao (bA (Ae rfl) (by rfl) T.xD An (aa (nz (own:=[("c",2)]) rfl oF.nd (dA (pv 1)) (cq (N:=["table","taken","c"]) (sc:=ak mo) (by decide +kernel)) (fun _ _ _ _ _=>(bZ (i:=2) oF.nd rfl (by first | exact Or.inl rfl | exact Or.inr rfl))) (by intro _ _ _ _ _;exact eA) (by intro _ _ _ _ _;exact (LW (HP (cQ hr) (pv 2) (jJ (K:=K) rfl (pv 0) rfl))))) ag)))),?_⟩;obtain ⟨⟨dx,ht⟩,⟨a8,hd,nX⟩,wf⟩:=tb;refine ⟨_,rfl,a,rfl,⟨_,hS⟩,fun D hD=>d5 (fun v=>some (V.bl (cB s (lA v)))) hS hD (b8 (by rw [List.length_map];omega)) (fun i x H2 R R0 hx s2 hR h0=>?_) fun H2 s2 rP=>?_⟩
  ·obtain ⟨c,Nm,rfl⟩:=eE hx;have En:=hc c (List.mem_of_getElem? Nm);refine ⟨rfl,?_⟩;have kP:=hR _ H2 (aB.refl _) rfl;have e:cB s (lA (V.int (c:Int)))=(fi a8 (Sum.inl (c:Int))).isSome:=(nX.val c En).isSome.symm;rw [e] at kP;exact eO (B:=R0 H2) ⟨_,rfl,_,rfl,t,Z.CT,dx,_,_,rfl,s2 _ _ ht,T.ud,T.nN,cA _ _,d,_,rfl,nB.k (k:=Sum.inl (c:Int)) (s2 _ _ hd),kP⟩
  ·rw [kM cs (cB s) V.bl] at rP;refine ⟨D,cs.map (cB s),rfl,bU.of rP,?_⟩;have e:((cs.map (cB s)).all id)=cs.all (cB s):=by rw [List.all_map];rfl
   rw [e];exact q H2 s2
theorem Cm {c:Nat} (h:cB s c=true):∃ x,s.cols.getD c none=some x∧kindAt s c=x.kind:=by
 unfold cB at h;cases e:s.cols.getD c none with
 | none=>rw [e] at h;cases h
 | some x=>exact ⟨x,rfl,by unfold kindAt;rw [e];rfl⟩
noncomputable abbrev bX (Z:cg) (K:PySem.W.Frag):Sp:=fun vs H Q _=>∃ (t d a:Addr) (s:Rd18.Abs) (cs:List Nat) (only:Bool),vs=[.ref t,.ref a,.bl only]∧TabAt Z H t d s∧bU K H a (aZ cs)∧cs≠[]∧cs.length≤3∧(∀ c∈cs,c < 16)∧∀ H',aB H H'→Q (.int (cC s cs only)) H'
theorem rh (T:Ty K mg Z) (cU:ae P w K mg base 1 "are_there" ["table","taken"] (i4 Z K)) (aV:ae P w K mg base 1 "is_broken" ["kind"] cR) (D:aX K mg "refusal_of_taken" fg ["table","taken","only_broken"] f fd):ae P w K mg base 2 "refusal_of_taken" ["table","taken","only_broken"] (bX Z K):=by
 refine ae.of D eF (fun vs H Q E h=>?_) (fun bJ A outer s H vs Q E hr h=>?_)
 ·obtain ⟨t,d,a,s,cs,only,rfl,_⟩:=h;rfl
 ·obtain ⟨t,d,a,s,cs,only,rfl,tb,hS,kW,hl,hc,q⟩:=h;refine ⟨_,(ai (aR (eU (aN (ah cU (hr.mono (by decide)) (aa (pv 0) (aa (pv 1) ag))))) (aj (ao (aM T.eQ))) aw)
   (ai (aO (i:=3) eF.nd rfl (by first | exact Or.inl rfl | exact Or.inr rfl) (aE (cu (cQ hr) (aE (pv 0) rfl) (bu aU (pv 1) ar (fun _ _=>rfl)) (fun _ _=>rfl)) rfl))
   (ai (aR (PW.pt (fK (aN (pv 2)) (gx (eU (aN (ah aV (hr.mono (by decide)) (aa (pv 3) ag))))))) (aj (ao (aM T.fG))) aw)
   (aj (ao (br (aN (bA (Ae rfl) (by rfl) T.xD An (aa (nz (own:=[("c",4)]) rfl eF.nd (dA (pv 1)) (cq (N:=["table","taken","only_broken","kind","c"]) (sc:=ak fg) (by decide +kernel)) (fun _ _ _ _ _=>(bZ (i:=4) eF.nd rfl (by first | exact Or.inl rfl | exact Or.inr rfl))) (by intro _ _ _ _ _;exact eA) (by intro _ _ _ _ _;exact (dM bD (jJ (K:=K) rfl (cu (cQ hr) (jJ (K:=K) rfl (pv 0) rfl) (pv 4) (fun _ _=>rfl)) rfl) (pv 3) (aJ _)))) ag))) (aM T.dB) (aM T.fG))))))),?_⟩
  refine ⟨_,rfl,_,rfl,t,d,a,s,cs,rfl,tb,hS,hl,hc,fun H1 s1=>⟨_,rfl,?_⟩⟩;unfold cC at q;have VA:=tb.same s1;have Ls:=s1.seq hS;obtain ⟨⟨dx,ht⟩,⟨a8,hd,nX⟩,wf⟩:=VA;cases Ai:cs.all (cB s) with
  | false =>
   refine eO ?_;rw [if_neg (by rw [Ai];decide)] at q;exact q H1 s1
  | true =>
   refine ux ?_;rw [if_pos Ai] at q;have hA:=List.all_eq_true.mp Ai;obtain ⟨c0,r0,rfl⟩:∃ c r,cs=c::r:=by
    cases cs with
    | nil=>exact absurd rfl kW
    | cons c r=>exact ⟨c,r,rfl⟩
   obtain ⟨x0,CB,Ni⟩:=Cm (hA c0 List.mem_cons_self);obtain ⟨p0,VB,VC,q0,DN,_⟩:=nX.get (hc c0 List.mem_cons_self) CB;refine ⟨_,rfl,t,Z.CT,dx,_,_,rfl,ht,T.ud,T.nN,cA _ _,_,rfl,a,_,0,_,rfl,rfl,Ls,aI (j:=0) rfl,d,_,rfl,(by rw [← VB];exact nB.k (k:=Sum.inl (c0:Int)) hd),p0,Z.CC,VC,_,_,rfl,DN,T.DG,T.Ca,oq _ _,?_⟩;have xX:=(wf.col c0 x0 CB).kind;have hh:(c0::r0).headD 0=c0:=rfl;rw [hh,Ni] at q
   -- the kinds
   have last:(if ((c0::r0).all fun c=>decide (kindAt s c=x0.kind))=true then (∀ H',aB H H'→Q (.int 0) H') else ∀ H',aB H H'→Q (.int (-4)) H') →
     (tRet (tIf (tB (tCB (N3 K) (tCons (N8 (K8 K (tVar 1)) (gName 4) Mm (tOp rEq (tFld K (BW (tFld K (tVar 0) "columns") (tVar 4)) "kind") (tVar 3)) [4]) tNil))) (tC (.int 0)) (tC (.int (-4))))) { nx:=fun _ H'=>Q .dR H',rt:=Q } [some (.ref t),some (.ref a),some (.bl only),some (.int x0.kind),none] H1:=by
    intro qq;refine ⟨_,rfl,a,rfl,⟨_,Ls⟩,fun D hD=>d5 (fun v=>some (V.bl (decide (kindAt s (lA v)=x0.kind)))) Ls hD (b8 (by rw [List.length_map];omega)) (fun i x H2 R R0 hx s2 hR h0=>?_) fun H2 s2 rP=>?_⟩
    ·obtain ⟨c,Nm,rfl⟩:=eE hx;have S5:=List.mem_of_getElem? Nm;obtain ⟨y,hy,VD⟩:=Cm (hA c S5);obtain ⟨p,hv,dp,qd,hp,_⟩:=nX.get (hc c S5) hy;refine ⟨rfl,?_⟩;have kP:=hR _ H2 (aB.refl _) rfl;have e:decide (kindAt s (lA (V.int (c:Int)))=x0.kind)=decide (V.int (y.kind:Int)=V.int (x0.kind:Int)):=by
      refine decide_eq_decide.mpr ?_;show kindAt s c=x0.kind↔_;rw [VD];constructor
      ·intro e;rw [e]
      ·intro e;injection e with e;omega
     rw [e] at kP;exact eO (B:=R0 H2) ⟨_,rfl,t,Z.CT,dx,_,_,rfl,s2 _ _ ht,T.ud,T.nN,cA _ _,_,rfl,d,_,rfl,(by rw [← hv];exact nB.k (k:=Sum.inl (c:Int)) (s2 _ _ hd)),p,Z.CC,dp,_,_,rfl,s2 _ _ hp,T.DG,T.Ca,oq _ _,_,rfl,rfl,kP⟩
    ·rw [kM (c0::r0) (fun c=>decide (kindAt s c=x0.kind)) V.bl] at rP;have e:(((c0::r0).map fun c=>decide (kindAt s c=x0.kind)).all id)=(c0::r0).all fun c=>decide (kindAt s c=x0.kind):=by rw [List.all_map];rfl
     refine ⟨D,_,rfl,bU.of rP,_,rfl,?_⟩;refine kJ (fun h=>?_) (fun h=>?_)
     ·rw [e] at h;rw [if_pos h] at qq;exact qq H2 (s1.trans s2)
     ·rw [e] at h;rw [if_neg (by rw [h];decide)] at qq;exact qq H2 (s1.trans s2)
   refine ⟨_,rfl,_,rfl,?_⟩;cases only with
   | false =>
    refine ux (ux ?_);rw [if_neg (by simp)] at q;refine last ?_;split at q
    ·rename_i h;rw [if_pos h];exact q
    ·rename_i h;rw [if_neg h];exact q
   | true =>
    refine eO ⟨_,rfl,x0.kind,rfl,_,rfl,?_⟩;refine iA (fun hn=>?_) (fun hb=>?_)
    ·rw [if_pos ⟨rfl,by show decide (6≤x0.kind)=false;exact decide_eq_false hn⟩] at q;exact q H1 s1
    ·rw [if_neg (fun h=>by have h2:decide (6≤x0.kind)=false:=h.2;rw [decide_eq_true hb] at h2;cases h2)] at q;refine last ?_;split at q
     ·rename_i h;rw [if_pos h];exact q
     ·rename_i h;rw [if_neg h];exact q
theorem bI (c:Int):Rd18.isCol c=decide (0≤c∧c≤15):=by unfold Rd18.isCol;rw [Bool.decide_and]
theorem kN (c:Int):Rd18.isKind c=decide (0≤c∧c≤8):=by unfold Rd18.isKind;rw [Bool.decide_and]
theorem yu (c:Int):Rd18.isWay c=decide (0≤c∧c≤3):=by unfold Rd18.isWay;rw [Bool.decide_and]
noncomputable abbrev rJ (Z:cg) (K:PySem.W.Frag):Sp:=fun vs H Q _=>∃ (t a:Addr) (s:Rd18.Abs) (c k:Int) (l:List Nat),vs=[.ref t,.int c,.int k,.ref a]∧pd Z H t s∧bU K H a (aZ l)∧l.length≤4000∧(∀ b∈l,Vk k.toNat b)∧i9 Z t (Rd18.does s (.put c k l (l.length:Int))) H Q
theorem za (T:Ty K mg Z) (aL:ae P w K mg base 1 "are_columns" ["numbers"] (bH Z K)) (gG:ae P w K mg base 1 "is_kind" ["kind"] Au) (bz:lO P w K mg base 1 "Column" Z.CC ["kind","numbers"]) (D:aX K mg "put_column" oG ["table","c","kind","values"] f fd):ae P w K mg base 3 "put_column" ["table","c","kind","values"] (rJ Z K):=by
 refine ae.of D y9 (fun vs H Q E h=>?_) (fun bJ A outer s H vs Q E hr h=>?_)
 ·obtain ⟨t,a,s,c,k,l,rfl,_⟩:=h;rfl
 ·obtain ⟨t,a,s,c,k,l,rfl,ok,hS,hl,hb,q⟩:=h;refine ⟨_,(ai (aR (eU (PW.pt (fK (aN (ah aL (hr.mono (by decide)) (aa (aP (aa (pv 1) ag)) ag))) (fK (aN (ah gG (hr.mono (by decide)) (aa (pv 2) ag))) (gx (aG bD (bA b9 (by rfl) T.kz jh (aa (pv 3) ag)) (aE (pv 0) rfl) (aJ _))))))) (aj (ao (aP (aa (aM T.bb) ag)))) aw)
   (ai (iH (cQ hr) (aE (pv 0) rfl) (pv 1) (dQ bz (hr.mono (by decide)) (aa (pv 2) (aa (FD Ac (by rfl) T.Ar Km (aa (pv 3) ag)) ag))) rfl)
   (aj (ao (aP (aa (aM T.dB) ag)))))),?_⟩
  have dh:Rd18.does s (.put c k l (l.length:Int))=if Rd18.isCol c=true∧Rd18.isKind k=true∧(l.length:Int)=(s.rows:Int) then (Rd18.set_ s c { kind:=k.toNat,cells:=l.map some },Rd18.just 0) else (s,Rd18.just (-2)):=rfl
  have bad:¬ (Rd18.isCol c=true∧Rd18.isKind k=true∧(l.length:Int)=(s.rows:Int))→∀ H1,aB H H1→∀ p,H1 p=none→Q (.ref p) (upd H1 p (.lst [.int (-2)])):=fun h H1 s1=>by
   rw [dh,if_neg h] at q;exact bQ ok s1 rfl rfl q
  obtain ⟨d,tb⟩:=ok.tab;obtain ⟨⟨dx,ht⟩,⟨a8,hd,nX⟩,wf⟩:=id tb;refine ⟨_,rfl,by show 1≤sizeLine;decide,oX (Z:=Z) (ns:=[c]) (by show 1≤100;decide) fun H1 s1=>?_⟩;have e1:([c].all fun c=>decide (0≤c∧c≤15))=Rd18.isCol c:=by rw [bI];simp
  rw [e1];refine kJ (fun h1=>?_) (fun h1=>?_)
  ·refine ⟨_,rfl,k,rfl,_,rfl,?_⟩;rw [← kN];refine kJ (fun h2=>?_) (fun h2=>?_)
   ·refine ⟨_,rfl,a,_,rfl,.inl (s1.seq hS),_,rfl,t,Z.CT,dx,_,_,rfl,s1 _ _ ht,T.ud,T.AF,wC _ _,rfl,_,rfl,?_⟩;refine iA (fun h3=>?_) (fun h3=>?_)
    ·exact ⟨by show 1≤sizeLine;decide,bad (fun h=>h3 (by rw [List.length_map,h.2.2])) H1 s1⟩
    ·have EY:(l.length:Int)=(s.rows:Int):=by
      have:=V.int.inj h3;rwa [List.length_map] at this
     rw [dh,if_pos ⟨h1,h2,EY⟩] at q;have hc:0≤c∧c≤15:=by rw [bI,decide_eq_true_eq] at h1;exact h1
     have hk:0≤k∧k≤8:=by rw [kN,decide_eq_true_eq] at h2;exact h2
     obtain ⟨cn,rfl⟩:∃ cn:Nat,c=cn:=⟨c.toNat,by omega⟩;obtain ⟨kn,rfl⟩:∃ kn:Nat,k=kn:=⟨k.toNat,by omega⟩;refine ⟨_,rfl,_,rfl,a,_,rfl,.inl (s1.seq hS),fun L hL=>⟨rfl,fun y H2 n2=>?_⟩⟩;obtain ⟨s2,SV,dy,hy⟩:=n2;have sL:aB H (upd H1 L (.lst (aZ l))):=ax s1 (s1.free hL);have lQ:aB H H2:=sL.trans s2;have Ry:=tb.same lQ;have hd2:=lQ _ _ hd;have M1:d7 Z H2 y { kind:=kn,cells:=l.map some }:=by
      refine ⟨dy,L,hy,?_⟩;have:cells (l.map some)=aZ l:=by unfold cells;rw [List.map_map];rfl
      show H2 L=some (.lst (cells (l.map some)));rw [this];exact s2 _ _ au
     have wx:AK s.rows { kind:=kn,cells:=l.map some }:=by
      refine ⟨by show kn≤8;omega,by show (l.map some).length=_;rw [List.length_map];omega,fun b rE=>?_⟩;have rE:some b∈l.map some:=rE;rw [List.mem_map] at rE;obtain ⟨b',h1,h2⟩:=rE;obtain rfl:b'=b:=Option.some.inj h2;have:=hb b' h1;rwa [Int.toNat_natCast] at this
     obtain ⟨VE,VF,hlen⟩:=EX Ry hd2 (c:=cn) (by omega) M1 wx;refine ⟨_,rfl,t,Z.CT,dx,_,_,rfl,lQ _ _ ht,T.ud,T.nN,cA _ _,_,rfl,d,_,rfl,De.k (k:=Sum.inl (cn:Int)) hd2 hlen,by show 1≤sizeLine;decide,fun p hp=>?_⟩;have s4:aB (upd H2 d (.dK (putK a8 (Sum.inl (cn:Int)) (.ref y)))) (upd (upd H2 d (.dK (putK a8 (Sum.inl (cn:Int)) (.ref y)))) p (.lst [.int 0])):=ax (aB.refl _) hp;have kt:GS H (upd (upd H2 d (.dK (putK a8 (Sum.inl (cn:Int)) (.ref y)))) p (.lst [.int 0])):=((aB.M0 lQ).trans VF).trans (aB.M0 s4);have Jy:p≠d:=fun e=>by rw [e,au] at hp;cases hp
     refine q p _ ⟨⟨⟨d,VE.same s4⟩,ok.lam.keep kt⟩,kt.kp,lQ.free (by rw [aH Jy] at hp;exact hp),au⟩
   ·refine eO ⟨by show 1≤sizeLine;decide,bad (fun h=>by rw [h2] at h;cases h.2.1) H1 s1⟩
  ·refine eO ⟨by show 1≤sizeLine;decide,bad (fun h=>by rw [h1] at h;cases h.1) H1 s1⟩
noncomputable abbrev rK (Z:cg) (_:PySem.W.Frag):Sp:=fun vs H Q _=>∃ (t:Addr) (s:Rd18.Abs) (c k n:Int),vs=[.ref t,.int c,.int k,.int n]∧pd Z H t s∧i9 Z t (Rd18.does s (.get c k n)) H Q
theorem yw:∀ l:List Rd18.Cell,((cells l).filterMap fun v=>some (if v=V.dR then V.int 0 else v))=aZ (l.map fun y=>y.getD 0)
 | []=>rfl
 | c::r=>by
  have ih:=yw r;cases c with
  | none=>simpa [cells,d6,List.filterMap_map,aZ] using ih
  | some b=>simpa [cells,d6,List.filterMap_map,aZ] using ih
theorem yx:∀ l:List Rd18.Cell,((cells l).filterMap fun v=>some (V.bl (!decide (v=V.dR))))=(l.map fun y=>y.isSome).map V.bl
 | []=>rfl
 | c::r=>by
  have ih:=yx r;cases c with
  | none=>simpa [cells,d6,List.filterMap_map] using ih
  | some b=>simpa [cells,d6,List.filterMap_map] using ih
theorem zb (T:Ty K mg Z) (kO:ae P w K mg base 1 "mask_of" ["holds"] (sE Z K)) (aL:ae P w K mg base 1 "are_columns" ["numbers"] (bH Z K)) (gG:ae P w K mg base 1 "is_kind" ["kind"] Au) (bO:ae P w K mg base 1 "count_missing" ["numbers"] (eL Z K)) (D:aX K mg "get_column" iX ["table","c","kind","n"] f fd):ae P w K mg base 2 "get_column" ["table","c","kind","n"] (rK Z K):=by
 refine ae.of D fH (fun vs H Q E h=>?_) (fun bJ A outer s H vs Q E hr h=>?_)
 ·obtain ⟨t,s,c,k,n,rfl,_⟩:=h;rfl
 ·obtain ⟨t,s,c,k,n,rfl,ok,q⟩:=h;refine ⟨_,(ai (aR (eU (PW.pt (fK (aN (ah aL (hr.mono (by decide)) (aa (aP (aa (pv 1) ag)) ag))) (fK (aN (ah gG (hr.mono (by decide)) (aa (pv 2) ag))) (gx (aG bD (pv 3) (aE (pv 0) rfl) (aJ _))))))) (aj (ao (aP (aa (aM T.bb) ag)))) aw)
   (ai (aR (Hh (FU (cQ hr) (pv 1) (aE (pv 0) rfl))) (aj (ao (aP (aa (aM T.eQ) ag)))) aw)
   (ai (aR (aG lY (aE (cu (cQ hr) (aE (pv 0) rfl) (pv 1) (fun _ _=>rfl)) rfl) (pv 2) (aJ _)) (aj (ao (aP (aa (aM T.fG) ag)))) aw)
   (ai (aO (i:=4) fH.nd rfl (by first | exact Or.inl rfl | exact Or.inr rfl) (aE (cu (cQ hr) (aE (pv 0) rfl) (pv 1) (fun _ _=>rfl)) rfl))
   (ai (jT (i:=5) (own:=[("x",6)]) rfl fH.nd rfl rfl (l8 rfl rfl (by rfl) (by rfl)) (dA (pv 4)) (cq (N:=["table","c","kind","n","numbers","bits","x"]) (sc:=ak iX) (by decide +kernel)) (fun _ _ _ _ _=>(bZ (i:=6) fH.nd rfl (by first | exact Or.inl rfl | exact Or.inr rfl))) (by intro _ _ _ _ _;exact eA) (by intro _ _ _ _ _;exact (br (aG Hv (pv 6) n8 (aJ _)) ar (pv 6))))
   (aj (ao (aT r8 (aT r8 (aP (aa (aT cP (bA b9 (by rfl) T.kz jh (aa (pv 4) ag)) (ah bO (hr.mono (by decide)) (aa (pv 4) ag))) ag)) (pv 5)) (ah kO (hr.mono (by decide)) (aa (nz (own:=[("x",6)]) rfl fH.nd (dA (pv 4)) (cq (N:=["table","c","kind","n","numbers","bits","x"]) (sc:=ak iX) (by decide +kernel)) (fun _ _ _ _ _=>(bZ (i:=6) fH.nd rfl (by first | exact Or.inl rfl | exact Or.inr rfl))) (by intro _ _ _ _ _;exact eA) (by intro _ _ _ _ _;exact (dM Ex (pv 6) n8 (aJ _)))) ag)))))))))),?_⟩
  have dh:Rd18.does s (.get c k n)=Rd18.of1 s c (Rd18.isCol c&&(Rd18.isKind k&&decide (n=(s.rows:Int)))) false fun x=>if x.kind≠k.toNat then (s,Rd18.just (-4)) else (s,{ value:=(Rd18.there x.cells:Nat),out:=x.cells.map (fun y=>y.getD 0)++Rd18.maskOf s.rows fun i=>(x.cells.getD i none).isSome }):=rfl
  obtain ⟨d,tb⟩:=ok.tab;obtain ⟨⟨dx,ht⟩,⟨a8,hd,nX⟩,wf⟩:=id tb;have bad:(Rd18.isCol c&&(Rd18.isKind k&&decide (n=(s.rows:Int))))=false→∀ H1,aB H H1→∀ p,H1 p=none→Q (.ref p) (upd H1 p (.lst [.int (-2)])):=fun h H1 s1=>by
   rw [dh,h] at q;exact bQ ok s1 rfl rfl q
  refine ⟨_,rfl,by show 1≤sizeLine;decide,oX (Z:=Z) (ns:=[c]) (by show 1≤100;decide) fun H1 s1=>?_⟩;have e1:([c].all fun c=>decide (0≤c∧c≤15))=Rd18.isCol c:=by rw [bI];simp
  rw [e1];refine kJ (fun h1=>?_) (fun h1=>eO ⟨by show 1≤sizeLine;decide,bad (by rw [h1];rfl) H1 s1⟩);refine ⟨_,rfl,k,rfl,_,rfl,?_⟩;rw [← kN];refine kJ (fun h2=>?_) (fun h2=>eO ⟨by show 1≤sizeLine;decide,bad (by rw [h1,h2];rfl) H1 s1⟩);refine ⟨_,rfl,_,rfl,t,Z.CT,dx,_,_,rfl,s1 _ _ ht,T.ud,T.AF,wC _ _,rfl,_,rfl,?_⟩;refine iA (fun h3=>⟨by show 1≤sizeLine;decide,bad (by rw [h1,h2,decide_eq_false (fun e=>h3 (by rw [e]))];rfl) H1 s1⟩) (fun h3=>?_);have EY:n=(s.rows:Int):=V.int.inj h3;rw [dh,h1,h2,decide_eq_true EY] at q;have q:i9 Z t (match Rd18.col s c with
   | none=>(s,Rd18.just (-3))
   | some x=>if x.kind≠k.toNat then (s,Rd18.just (-4)) else (s,{ value:=(Rd18.there x.cells:Nat),out:=x.cells.map (fun y=>y.getD 0)++Rd18.maskOf s.rows fun i=>(x.cells.getD i none).isSome })) H Q:=by
   have e:Rd18.of1 s c (true&&(true&&true)) false (fun x=>if x.kind≠k.toNat then (s,Rd18.just (-4)) else (s,{ value:=(Rd18.there x.cells:Nat),out:=x.cells.map (fun y=>y.getD 0)++Rd18.maskOf s.rows fun i=>(x.cells.getD i none).isSome }))=(match Rd18.col s c with
    | none=>(s,Rd18.just (-3))
    | some x=>if x.kind≠k.toNat then (s,Rd18.just (-4)) else (s,{ value:=(Rd18.there x.cells:Nat),out:=x.cells.map (fun y=>y.getD 0)++Rd18.maskOf s.rows fun i=>(x.cells.getD i none).isSome })):=by
    unfold Rd18.of1;simp only [Bool.and_self,Bool.true_eq_false,if_false,Bool.false_eq_true,false_and];cases Rd18.col s c <;> rfl
   rw [← e];exact q
  have hc:0≤c∧c≤15:=by rw [bI,decide_eq_true_eq] at h1;exact h1
  have hk:0≤k∧k≤8:=by rw [kN,decide_eq_true_eq] at h2;exact h2
  obtain ⟨cn,rfl⟩:∃ cn:Nat,c=cn:=⟨c.toNat,by omega⟩;obtain ⟨kn,rfl⟩:∃ kn:Nat,k=kn:=⟨k.toNat,by omega⟩;have Rz:Rd18.col s (cn:Int)=s.cols.getD cn none:=by unfold Rd18.col;rw [Int.toNat_natCast]
  rw [Rz,Int.toNat_natCast] at q;have PD:=s1 _ _ hd;have Lu:=s1 _ _ ht;refine ⟨_,rfl,_,rfl,t,Z.CT,dx,_,_,rfl,Lu,T.ud,T.nN,cA _ _,d,_,rfl,nB.k (k:=Sum.inl (cn:Int)) PD,_,rfl,?_⟩;cases hx:s.cols.getD cn none with
  | none =>
   rw [hx] at q;rw [nX.no (by omega) hx];exact eO ⟨by show 1≤sizeLine;decide,bQ ok s1 rfl rfl q⟩
  | some x =>
   rw [hx] at q;have q:i9 Z t (if x.kind≠kn then (s,Rd18.just (-4)) else (s,{ value:=(Rd18.there x.cells:Nat),out:=x.cells.map (fun y=>y.getD 0)++Rd18.maskOf s.rows fun i=>(x.cells.getD i none).isSome })) H Q:=q;obtain ⟨p,hv,dp,qq,hp,yJ⟩:=nX.get (by omega) hx;have wx:=wf.col cn x hx;have CA:=wf.rows;have O0:∀ H2,aB H1 H2→nB H2 d (V.int (cn:Int)) (some (.ref p)):=fun H2 s2=>by rw [← hv];exact nB.k (k:=Sum.inl (cn:Int)) (s2 _ _ PD)
   rw [hv];refine ux ⟨_,rfl,t,Z.CT,dx,_,_,rfl,Lu,T.ud,T.nN,cA _ _,_,rfl,d,_,rfl,O0 H1 (aB.refl _),p,Z.CC,dp,_,_,rfl,s1 _ _ hp,T.DG,T.Ca,oq _ _,_,rfl,rfl,_,rfl,?_⟩;refine iA (fun kW=>?_) (fun heq=>?_)
   ·rw [if_pos (fun e=>kW (by rw [e]))] at q;exact ⟨by show 1≤sizeLine;decide,bQ ok s1 rfl rfl q⟩
   ·have sT:x.kind=kn:=by have:=V.int.inj heq;omega
    rw [if_neg (fun h=>h sT)] at q;have Ls:bU K H1 qq (cells x.cells):=bU.of (s1 _ _ yJ);have Lq:(cells x.cells).length≤sizeLine:=b8 (by rw [List.length_map,wx.len];omega);refine ⟨_,rfl,t,Z.CT,dx,_,_,rfl,Lu,T.ud,T.nN,cA _ _,_,rfl,d,_,rfl,O0 H1 (aB.refl _),p,Z.CC,dp,_,_,rfl,s1 _ _ hp,T.DG,T.DH,lx _ _,?_⟩
    -- bits
    refine ⟨_,rfl,qq,rfl,⟨_,Ls⟩,fun B hB=>d5 (fun v=>some (if v=V.dR then V.int 0 else v)) Ls hB Lq (fun i v H2 R R0 MY s2 hR h0=>?_) fun H2 s2 Nq=>?_⟩
    ·refine ⟨rfl,?_⟩;have kP:=hR _ H2 (aB.refl _) rfl;refine eO (B:=R0 H2) ⟨_,rfl,rfl,_,rfl,lP (fun hn=>?_) (fun hn=>?_)⟩
     ·rw [if_pos hn] at kP;exact kP
     ·rw [if_neg hn] at kP;exact ⟨_,rfl,kP⟩
    ·rw [yw] at Nq;have Gv:bU K H2 qq (cells x.cells):=s2.seq Ls;refine ⟨_,rfl,qq,_,rfl,.inl Gv,_,rfl,qq,x.cells,rfl,Gv,by rw [wx.len];omega,fun H3 s3=>⟨_,_,rfl,rfl,by show 1≤sizeLine;decide,fun A1 GU=>?_⟩⟩;have S6:aB H1 H3:=s2.trans s3;have sA:aB H1 (upd H3 A1 (.lst [.int (((cells x.cells).length:Nat) - (Rd18.missing x.cells:Nat):Int)])):=ax S6 (S6.free GU);have VG:(upd H3 A1 (.lst [.int (((cells x.cells).length:Nat) - (Rd18.missing x.cells:Nat):Int)])) B=some (.lst (aZ (x.cells.map fun y=>y.getD 0))):=by
      have OC:=s3 _ _ Nq;rw [aH (bf OC GU)];exact OC
     refine ⟨_,rfl,A1,B,_,_,rfl,rfl,au,VG,b8 (by simp [wx.len];omega),fun A2 VH=>?_⟩;have RA:H1 A2=none:=sA.free VH;have S7:aB H1 (upd (upd H3 A1 (.lst [.int (((cells x.cells).length:Nat) - (Rd18.missing x.cells:Nat):Int)])) A2 (.lst ([.int (((cells x.cells).length:Nat) - (Rd18.missing x.cells:Nat):Int)]++aZ (x.cells.map fun y=>y.getD 0)))):=ax sA RA;have S8:=S7.seq Ls
     -- the mask
     refine ⟨_,rfl,qq,rfl,⟨_,S8⟩,fun M hM=>d5 (fun v=>some (V.bl (!decide (v=V.dR)))) S8 hM Lq (fun i v H5 R R0 MY s5 hR h0=>?_) fun H5 s5 S9=>?_⟩
     ·refine ⟨rfl,?_⟩;exact eO (B:=R0 H5) ⟨_,rfl,rfl,hR _ H5 (aB.refl _) rfl⟩
     ·rw [yx] at S9;refine ⟨M,x.cells.map fun y=>y.isSome,rfl,bU.of S9,by rw [List.length_map,wx.len];omega,fun G H6 s6 Ln OD=>?_⟩;have VI:Rd18.maskOf (x.cells.map fun y=>y.isSome).length (fun i=>(x.cells.map fun y=>y.isSome).getD i false)=Rd18.maskOf s.rows fun i=>(x.cells.getD i none).isSome:=by
       rw [List.length_map,wx.len];rw [← eP,← eP];refine sX fun i hi=>?_;have OE:i < x.cells.length:=by rw [wx.len];exact hi
       simp [List.getD,OE]
      rw [VI] at OD;have VJ:=s6 _ _ (s5 _ _ (show (upd (upd H3 A1 _) A2 _) A2=_ from au));refine ⟨A2,G,_,_,rfl,rfl,VJ,OD,?_,fun r RB=>?_⟩
      ·refine b8 ?_;have h1:(Rd18.maskOf s.rows fun i=>(x.cells.getD i none).isSome).length=(s.rows+7) / 8:=by rw [← eP,gb]
       simp only [List.length_append,List.length_cons,List.length_nil,List.length_map,h1,wx.len];omega
      ·have VL:aB H H6:=((s1.trans S7).trans s5).trans s6;refine bQ ok VL rfl ?_ q r RB;have X3:=yN x.cells;show V.int ((Rd18.there x.cells:Nat):Int)::aZ (x.cells.map (fun y=>y.getD 0)++Rd18.maskOf s.rows fun i=>(x.cells.getD i none).isSome)=_;have e0:((Rd18.there x.cells:Nat):Int)=(((cells x.cells).length:Nat) - (Rd18.missing x.cells:Nat):Int):=by rw [List.length_map];omega
       rw [e0];unfold aZ;rw [List.map_append];rfl
end
structure Go (Z:cg) (H H':Hp):Prop where
 nt:∀ b o,H b=some o→(∀ ps,o≠.zZ ps)→H' b=some o
 lam:u5 Z H'
 fr:∀ p,H' p=none→H p=none
section
variable {P:Program} {w:World} {K:PySem.W.Frag} {mg:Str→Option Value} {base:Heap} {f:Addr} {fd:FuncData} {Z:cg} {H H1 H2:Hp} {Q:VK} {E:XK} {CF t d:Addr} {s:Rd18.Abs}
theorem Go.same (l:u5 Z H) (s:aB H H1):Go Z H H1:=⟨fun b o e _=>s b o e,l.keep (aB.M0 s),fun _ h=>s.free h⟩
theorem Go.trans (a:Go Z H H1) (b:Go Z H1 H2):Go Z H H2:=⟨fun c o e h=>b.nt c o (a.nt c o e h) h,b.lam,fun p h=>a.fr p (b.fr p h)⟩
theorem Go.then (a:Go Z H H1) (b:aB H1 H2):Go Z H H2:=a.trans (Go.same a.lam b)
theorem Go.made {T:Addr} {q:Str} (l:u5 Z H) (nd:((tabs Z).map (·.1)).Nodup) (hm:(T,q)∈tabs Z) (hT:fR H1 T q) (k:∀ b o,H b=some o→b≠T→H1 b=some o):Go Z H H1:=by
 obtain ⟨ps,JA,_⟩:=l _ hm;refine ⟨fun b o e h=>k b o e (fun z=>?_),l.made nd hm hT k,fun p hp=>?_⟩
 ·subst z;have:some o=some (.zZ ps):=e.symm.trans JA;injection this with this;exact h ps this
 ·cases hx:H p with
  | none=>rfl
  | some o =>
   by_cases Ta:p=T
   ·obtain ⟨qs,VM,_⟩:=hT;rw [Ta,VM] at hp;cases hp
   ·rw [k p o hx Ta] at hp;cases hp
theorem Go.kp (g:Go Z H H1):Kp H H1:=fun b o e h=>g.nt b o e (fun ps z=>by subst z;rcases h with ⟨_,h⟩ | ⟨_,_,h⟩ <;> cases h)
theorem Go.col {p:Addr} {x:Rd18.Column} (g:Go Z H H1) (h:d7 Z H p x):d7 Z H1 p x:=by
 obtain ⟨dx,q,h1,h2⟩:=h;exact ⟨dx,q,g.nt _ _ h1 (fun _ z=>by cases z),g.nt _ _ h2 (fun _ z=>by cases z)⟩
theorem Go.tab (g:Go Z H H1) (h:TabAt Z H t d s):TabAt Z H1 t d s:=by
 obtain ⟨⟨dx,h1⟩,⟨a8,h2,h3⟩,h4⟩:=h;exact ⟨⟨dx,g.nt _ _ h1 (fun _ z=>by cases z)⟩,⟨a8,g.nt _ _ h2 (fun _ z=>by cases z),h3.of fun p y q=>g.col q⟩,h4⟩
theorem mZ {y:Rd18.Abs×Rd18.Ans} {l:List V} (tb:TabAt Z H t d s) (g:Go Z H H1) (e1:y.1=s) (e2:Gw y.2=l) (q:i9 Z t y H Q):∀ p,H1 p=none→Q (.ref p) (upd H1 p (.lst l)):=fun p hp=>by
 have g2:=g.then (ax (o:=.lst l) (aB.refl H1) hp)
 refine q p _ ⟨?_,g2.kp,g.fr p hp,by rw [au,e2]⟩;rw [e1];exact ⟨⟨d,g2.tab tb⟩,g2.lam⟩
structure qc (P:Program) (w:World) (K:PySem.W.Frag) (mg:Str→Option Value) (base:Heap) (Z:cg):Prop where
 ex:∃ f fd,mg "made_of_rows"=some (.ref f)∧PySem.W.keepIn K (.ref f)=true∧Binds K fd ["table","taken","make"] []∧BZ P w K mg base Bc 15 13 f fd ["table","taken","make"] (AL Z K)
theorem qQ {l:List Rd18.Cell} {n:Nat} (hl:l.length=n) (g:Nat→Rd18.Cell) {res:List Nat→V} (Jc:∀ b,res [b]=d6 (g b)):(List.range n).map (iz [l] res)=cells (Rd18.each l g):=by
 rw [CQ hl];unfold cells;rw [List.map_map];refine List.map_congr_left fun i _=>?_;unfold iz bx bx;show _=d6 ((l.getD i none).bind g);cases l.getD i none with
 | none=>rfl
 | some b=>exact Jc b
theorem zO {l m:List Rd18.Cell} {n:Nat} (hl:l.length=n) (hm:m.length=n) (g:Nat→Nat→Nat) {res:List Nat→V} (Jc:∀ a b,res [a,b]=.int (g a b)):(List.range n).map (iz [l,m] res)=cells (Rd18.both l m g):=by
 rw [wW hl hm];unfold cells;rw [List.map_map];refine List.map_congr_left fun i _=>?_;unfold iz bx bx bx;show _=d6 ((l.getD i none).bind fun a=>(m.getD i none).map fun b=>g a b);cases l.getD i none with
 | none=>rfl
 | some a =>
  cases m.getD i none with
  | none=>rfl
  | some b=>exact Jc a b
theorem DV {l m o:List Rd18.Cell} {n:Nat} (hl:l.length=n) (hm:m.length=n) (ho:o.length=n) (g:Nat→Nat→Nat→Nat) {res:List Nat→V} (Jc:∀ a b c,res [a,b,c]=.int (g a b c)):(List.range n).map (iz [l,m,o] res)=cells (Rd18.three l m o g):=by
 rw [vf hl hm ho];unfold cells;rw [List.map_map];refine List.map_congr_left fun i _=>?_;unfold iz bx bx bx bx;show _=d6 ((l.getD i none).bind fun a=>(m.getD i none).bind fun b=>(o.getD i none).map fun c=>g a b c);cases l.getD i none with
 | none=>rfl
 | some a =>
  cases m.getD i none with
  | none=>rfl
  | some b =>
   cases o.getD i none with
   | none=>rfl
   | some c=>exact Jc a b c
theorem getD_mem {l:List Rd18.Cell} {i b:Nat} (h:l.getD i none=some b):some b∈l:=by
 rw [List.getD_eq_getElem?_getD] at h;cases hi:l[i]? with
 | none=>rw [hi] at h;cases h
 | some z=>rw [hi] at h;have h:z=some b:=h;rw [← h];exact List.mem_of_getElem? hi
theorem EZ {x:Rd18.Column} {n k:Nat} (hl:x.cells.length=n) (hk:k≤8) {g:Nat→Rd18.Cell} (hg:∀ b c,some b∈x.cells→g b=some c→Vk k c):AK n { kind:=k,cells:=Rd18.each x.cells g }:=by
 refine ⟨hk,by show (Rd18.each x.cells g).length=n;unfold Rd18.each;rw [List.length_map];exact hl,fun c hc=>?_⟩;have hc:some c∈Rd18.each x.cells g:=hc;unfold Rd18.each at hc;obtain ⟨y,hy,e⟩:=List.mem_map.mp hc;cases y with
 | none=>cases e
 | some b=>exact hg b c hy e
theorem t5 {l:List Rd18.Cell} {i:Nat} {bs:List Nat} (h:bx [l] i=some bs):∃ b,bs=[b]∧some b∈l:=by
 unfold bx bx at h;cases hc:l.getD i none with
 | none=>rw [hc] at h;cases h
 | some b=>rw [hc] at h;exact ⟨b,(Option.some.inj h).symm,getD_mem hc⟩
theorem yy {l m:List Rd18.Cell} {i:Nat} {bs:List Nat} (h:bx [l,m] i=some bs):∃ a b,bs=[a,b]∧some a∈l∧some b∈m:=by
 unfold bx bx bx at h;cases hc:l.getD i none with
 | none=>rw [hc] at h;cases h
 | some a =>
  rw [hc] at h;cases hd:m.getD i none with
  | none=>rw [hd] at h;cases h
  | some b=>rw [hd] at h;exact ⟨a,b,(Option.some.inj h).symm,getD_mem hc,getD_mem hd⟩
theorem DW {l m o:List Rd18.Cell} {i:Nat} {bs:List Nat} (h:bx [l,m,o] i=some bs):∃ a b c,bs=[a,b,c]∧some a∈l∧some b∈m∧some c∈o:=by
 unfold bx bx bx bx at h;cases hc:l.getD i none with
 | none=>rw [hc] at h;cases h
 | some a =>
  rw [hc] at h;cases hd:m.getD i none with
  | none=>rw [hd] at h;cases h
  | some b =>
   rw [hd] at h;cases he:o.getD i none with
   | none=>rw [he] at h;cases h
   | some c=>rw [he] at h;exact ⟨a,b,c,(Option.some.inj h).symm,getD_mem hc,getD_mem hd,getD_mem he⟩
theorem zP {k:Nat} (n:Int):Vk k (Rd18.bitsOf k n):=by
 unfold Vk Rd18.bitsOf;have hp:(0:Int) < (2 ^ Rd18.width k:Int):=by rw [cD];exact wL _
 have h1:=Int.emod_nonneg n (by omega:(2 ^ Rd18.width k:Int)≠0);have h2:=Int.emod_lt_of_pos n hp;rw [cD] at *
 omega
theorem qR {k:Nat} (hk:Bk k) (x:Rd18.Num):Vk k (Rd18.near k x):=(qC hk x).vk hk
theorem KQ {k w c:Nat} {x:Rd18.Num} (hk:k≤8) (h:Rd18.made k w x=some c):Vk k c:=by
 unfold Rd18.made at h;rcases kR hk with h6 | hb
 ·rw [if_neg (by rw [eS h6];decide)] at h;cases x with
  | fin neg m e =>
   have h:(if Rd18.fits k (Rd18.madeWhole w neg m e)=true then some (Rd18.bitsOf k (Rd18.madeWhole w neg m e)) else none)=some c:=h;split at h
   ·rw [← Option.some.inj h];exact zP _
   ·cases h
  | inf n=>cases h
  | nan=>cases h
 ·rw [if_pos hb.broken] at h;cases x with
  | fin neg m e=>rw [← Option.some.inj h];exact (wM hb).vk hb
  | inf n=>rw [← Option.some.inj h];exact (wg (rO hb)).vk hb
  | nan=>rw [← Option.some.inj h];exact (Bi hb).vk hb
end
section
variable {P:Program} {w:World} {K:PySem.W.Frag} {mg:Str→Option Value} {base:Heap} {f:Addr} {fd:FuncData} {Z:cg} {H H1 H2:Hp} {Q:VK} {E:XK} {CF t d:Addr} {s:Rd18.Abs}
theorem jM (c:Nat):Rd18.col s (c:Int)=s.cols.getD c none:=by unfold Rd18.col;rw [Int.toNat_natCast]
theorem zQ {k:Nat} (h8:k≤8) (h:Rd18.broken k=true):Bk k:=by
 have h6:decide (6≤k)=true:=h;have:=of_decide_eq_true h6;have h3:k=6∨k=7∨k=8:=by omega
 exact h3
theorem jx (c:Nat) (only:Bool) (f:Rd18.Column→Rd18.Abs×Rd18.Ans) :
  (cC s [c] only=0∧∃ x,s.cols.getD c none=some x∧(only=true→Rd18.broken x.kind=true)∧Rd18.of1 s c true only f=f x)∨(cC s [c] only≠0∧Rd18.of1 s c true only f=(s,Rd18.just (cC s [c] only))):=by
 have hk:([c].all fun c'=>decide (kindAt s c'=kindAt s ([c].headD 0)))=true:=by simp
 unfold Rd18.of1;rw [jM,if_neg (by decide)];cases hx:s.cols.getD c none with
 | none =>
  have h0:cB s c=false:=by unfold cB;rw [hx];rfl
  have hr:cC s [c] only=-3:=by unfold cC;simp [h0]
  exact .inr ⟨by rw [hr];decide,by rw [hr]⟩
 | some x =>
  have h0:cB s c=true:=by unfold cB;rw [hx];rfl
  have hh:([c].all (cB s))=true:=by simp [h0]
  have EU:kindAt s ([c].headD 0)=x.kind:=by show kindAt s c=_;unfold kindAt;rw [hx];rfl
  by_cases hb:only=true∧Rd18.broken x.kind=false
  ·have hr:cC s [c] only=-4:=by unfold cC;rw [if_pos hh,EU,if_pos hb]
   refine .inr ⟨by rw [hr];decide,?_⟩;rw [hr];exact if_pos hb
  ·have hr:cC s [c] only=0:=by
    unfold cC;rw [if_pos hh,if_neg (by rw [EU];exact hb),if_pos hk]
   refine .inl ⟨hr,x,rfl,fun ho=>?_,if_neg hb⟩;cases he:Rd18.broken x.kind with
   | true=>rfl
   | false=>exact absurd ⟨ho,he⟩ hb
theorem sI (a b:Nat) (only:Bool) (fit:Rd18.Column→Rd18.Column→Bool) (f:Rd18.Column→Rd18.Column→Rd18.Abs×Rd18.Ans) (hf:∀ x y,fit x y=(x.kind == y.kind&&(!only || Rd18.broken x.kind))) :
  (cC s [a,b] only=0∧∃ x y,s.cols.getD a none=some x∧s.cols.getD b none=some y∧y.kind=x.kind∧(only=true→Rd18.broken x.kind=true)∧Rd18.of2 s a b true fit f=f x y)∨(cC s [a,b] only≠0∧Rd18.of2 s a b true fit f=(s,Rd18.just (cC s [a,b] only))):=by
 unfold Rd18.of2;rw [jM,jM,if_neg (by decide)];cases hx:s.cols.getD a none with
 | none =>
  have h0:cB s a=false:=by unfold cB;rw [hx];rfl
  have hr:cC s [a,b] only=-3:=by unfold cC;simp [h0]
  exact .inr ⟨by rw [hr];decide,by rw [hr]⟩
 | some x =>
  cases hy:s.cols.getD b none with
  | none =>
   have h0:cB s b=false:=by unfold cB;rw [hy];rfl
   have hr:cC s [a,b] only=-3:=by unfold cC;simp [h0]
   exact .inr ⟨by rw [hr];decide,by rw [hr]⟩
  | some y =>
   have h0:cB s a=true:=by unfold cB;rw [hx];rfl
   have OZ:cB s b=true:=by unfold cB;rw [hy];rfl
   have hh:([a,b].all (cB s))=true:=by simp [h0,OZ]
   have EU:kindAt s a=x.kind:=by unfold kindAt;rw [hx];rfl
   have MX:kindAt s b=y.kind:=by unfold kindAt;rw [hy];rfl
   have OG:[a,b].headD 0=a:=rfl;have PF:([a,b].all fun c'=>decide (kindAt s c'=x.kind))=decide (y.kind=x.kind):=by simp [EU,MX]
   by_cases hb:only=true∧Rd18.broken x.kind=false
   ·have hr:cC s [a,b] only=-4:=by unfold cC;rw [if_pos hh,OG,EU,if_pos hb]
    refine .inr ⟨by rw [hr];decide,?_⟩;rw [hr];refine if_neg ?_;rw [hf,hb.1,hb.2];simp
   ·by_cases hk:y.kind=x.kind
    ·have hr:cC s [a,b] only=0:=by unfold cC;rw [if_pos hh,OG,EU,if_neg hb,PF,if_pos (decide_eq_true hk)]
     have Tb:only=true→Rd18.broken x.kind=true:=fun ho=>by
      cases he:Rd18.broken x.kind with
      | true=>rfl
      | false=>exact absurd ⟨ho,he⟩ hb
     refine .inl ⟨hr,x,y,rfl,rfl,hk,Tb,if_pos ?_⟩;rw [hf];cases only with
     | false=>simp [hk]
     | true=>simp [hk,Tb rfl]
    ·have hr:cC s [a,b] only=-4:=by unfold cC;rw [if_pos hh,OG,EU,if_neg hb,PF,if_neg (by rw [decide_eq_false hk];decide)]
     refine .inr ⟨by rw [hr];decide,?_⟩;rw [hr];refine if_neg ?_;rw [hf];have:(x.kind == y.kind)=false:=by rw [beq_eq_false_iff_ne];exact fun e=>hk e.symm
     rw [this];simp
theorem gN {i:Nat} {x:V} {σ:St} {H:Hp} {N:St→Hp→Prop} (h:N (σ.set i (some x)) H):gName i x σ H N:=h
theorem sq {σ:St} {H:Hp} {t u:TS} {D:Ends} (h:t { D with nx:=u D } σ H):tSeq t u D σ H:=h
theorem yz {c:Bool} {A B:Prop} (h1:c=false→A) (h2:c=true→B):if (!c)=true then A else B:=by
 cases c with
 | false=>exact (if_pos (c:=(!false)=true) rfl).mpr (h1 rfl)
 | true=>exact (if_neg (c:=(!true)=true) (by decide)).mpr (h2 rfl)
theorem gH (T:Ty K mg Z) {R:VK} {c j:Nat} {x:Rd18.Column} {σ:St} (tb:TabAt Z H t d s) (hc:c < 16) (hx:s.cols.getD c none=some x) (h0:σ[0]?=some (some (.ref t))) (hj:σ[j]?=some (some (.int c))) (q:R (.int x.kind) H):tFld K (BW (tFld K (tVar 0) "columns") (tVar j)) "kind" σ H R:=by
 obtain ⟨⟨dx,ht⟩,⟨a8,hd,nX⟩,wf⟩:=tb;obtain ⟨p,hv,dp,qq,hp,yJ⟩:=nX.get hc hx;exact ⟨_,h0,t,Z.CT,dx,_,_,rfl,ht,T.ud,T.nN,cA _ _,_,hj,d,_,rfl,(by rw [← hv];exact nB.k (k:=Sum.inl (c:Int)) hd),p,Z.CC,dp,_,_,rfl,hp,T.DG,T.Ca,oq _ _,q⟩
theorem lC (T:Ty K mg Z) {R:VK} {c j:Nat} {x:Rd18.Column} {σ:St} (tb:TabAt Z H t d s) (hc:c < 16) (hx:s.cols.getD c none=some x) (h0:σ[0]?=some (some (.ref t))) (hj:σ[j]?=some (some (.int c))) (q:∀ qq,H qq=some (.lst (cells x.cells))→R (.ref qq) H):tFld K (BW (tFld K (tVar 0) "columns") (tVar j)) "numbers" σ H R:=by
 obtain ⟨⟨dx,ht⟩,⟨a8,hd,nX⟩,wf⟩:=tb;obtain ⟨p,hv,dp,qq,hp,yJ⟩:=nX.get hc hx;exact ⟨_,h0,t,Z.CT,dx,_,_,rfl,ht,T.ud,T.nN,cA _ _,_,hj,d,_,rfl,(by rw [← hv];exact nB.k (k:=Sum.inl (c:Int)) hd),p,Z.CC,dp,_,_,rfl,hp,T.DG,T.DH,lx _ _,q _ yJ⟩
theorem jN (T:Ty K mg Z) {R:VK} {σ:St} (tb:TabAt Z H t d s) (h0:σ[0]?=some (some (.ref t))) (q:R (.int s.rows) H):tFld K (tVar 0) "rows" σ H R:=by
 obtain ⟨⟨dx,ht⟩,_,wf⟩:=tb;exact ⟨_,h0,t,Z.CT,dx,_,_,rfl,ht,T.ud,T.AF,wC _ _,q⟩
theorem mv {cs:List Nat} {xs:List Rd18.Column} {res:List Nat→V} {T0 A:Addr} {q:Str} {ls:List V→Sp} {R:VK} {l:List V} {js:List Nat} {σ:St} (dH:List V) (tb:TabAt Z H t d s) (g:Go Z H H1) (ND:((tabs Z).map (·.1)).Nodup) (hm:(T0,q)∈tabs Z) (hA:H1 A=none) (BO:cs.length≤3) (hc:∀ c∈cs,c < 16) (hl:l=aZ cs)
  (Pr:cs.map (fun c=>s.cols.getD c none)=xs.map some) (MB:js.map (σ[·]?)=dH.map fun v=>some (some v))
  (Kl:∀ (i:Nat) (bs:List Nat) (H1:Hp) (g:Addr) (Q':VK),i < s.rows→bx (cellsOf xs) i=some bs→H1 g=some (.lst (aZ bs))→(∀ H2,aB H1 H2→Q' (res bs) H2)→ls dH [.ref g] H1 Q' E0)
  (h:∀ r H',Go Z H H'→H' r=some (.lst ((List.range s.rows).map (iz (cellsOf xs) res)))→R (.ref r) H') :
  fR (upd H1 A (.lst l)) T0 q∧∃ dH:List V,js.map (σ[·]?)=(dH.map fun v=>some (some v))∧∀ fl H3,fR H3 T0 q→(∀ b o,(upd H1 A (.lst l)) b=some o→b≠T0→H3 b=some o)→AL Z K (ls dH) [.ref t,.ref A,.ref fl] H3 R E0:=by
 have gA:=g.then (ax (o:=.lst l) (aB.refl H1) hA)
 have Tc:=gA.lam _ hm;refine ⟨Tc,dH,MB,fun fl H3 Ii k3=>?_⟩;have g3:=gA.trans (Go.made gA.lam ND hm Ii k3);refine ⟨t,d,A,fl,s,cs,xs,res,rfl,g3.tab tb,bU.of (k3 _ _ (by rw [au,hl]) (fun z=>?_)),BO,hc,Pr,fun i bs H4 gg Q' hi hb _ hg hq=>Kl i bs H4 gg Q' hi hb hg hq,fun r H4 s4 GR wD=>h r H4 (g3.then s4) wD⟩;obtain ⟨ps,JA,_⟩:=Tc;rw [← z,au] at JA;cases JA
structure Ky (Z:cg) (H H':Hp):Prop where
 kp:Kp H H'
 lam:u5 Z H'
 fr:∀ p,H' p=none→H p=none
theorem Go.ky (g:Go Z H H1):Ky Z H H1:=⟨g.kp,g.lam,g.fr⟩
theorem Ky.then (a:Ky Z H H1) (b:aB H1 H2):Ky Z H H2:=⟨a.kp.trans (aB.kp b),a.lam.keep (aB.M0 b),fun p h=>a.fr p (b.free h)⟩
theorem m8 {y:Rd18.Abs×Rd18.Ans} {l:List V} (tb:TabAt Z H1 t d s) (g:Ky Z H H1) (q:i9 Z t y H Q) (e1:y.1=s) (e2:Gw y.2=l):∀ p,H1 p=none→Q (.ref p) (upd H1 p (.lst l)):=fun p hp=>by
 have s2:=ax (o:=.lst l) (aB.refl H1) hp;have g2:=g.then s2
 refine q p _ ⟨?_,g2.kp,g.fr p hp,by rw [au,e2]⟩;rw [e1];exact ⟨⟨d,tb.same s2⟩,g2.lam⟩
theorem i5 (T:Ty K mg Z) {D:Ends} {c k j n:Nat} {r:Addr} {l:List Rd18.Cell} {tk:TE} {σ:St} (tb:TabAt Z H2 t d s) (g:Ky Z H H2) (hc:c < 16) (hr:H2 r=some (.lst (cells l))) (wx:AK s.rows { kind:=k,cells:=l }) (h0:σ[0]?=some (some (.ref t))) (hj:σ[j]?=some (some (.int c))) (hn:σ[n]?=some (some (.ref r)))
  (hk:∀ R:VK,R (.int k) H2→tk σ H2 R) (h:∀ H6,TabAt Z H6 t d (Rd18.set_ s c { kind:=k,cells:=l })→Ky Z H H6→Kp H2 H6→D.nx σ H6):Le (tFld K (tVar 0) "columns") (tVar j) (yU Z.CC ["kind","numbers"] (tCons tk (tCons (tVar n) tNil))) D σ H2:=by
 refine hk _ ⟨_,hn,rfl,fun y H5 n5=>?_⟩;obtain ⟨s5,SV,dy,hy⟩:=n5;have Td:=tb.same s5;obtain ⟨⟨dx,ht⟩,⟨a8,hd,nX⟩,wf⟩:=id Td;have M1:d7 Z H5 y { kind:=k,cells:=l }:=⟨dy,r,hy,s5 _ _ hr⟩;obtain ⟨Cn,RC,hlen⟩:=EX Td hd hc M1 wx;refine ⟨_,h0,t,Z.CT,dx,_,_,rfl,ht,T.ud,T.nN,cA _ _,_,hj,d,_,rfl,De.k (k:=Sum.inl (c:Int)) hd hlen,?_⟩;have g5:=g.then s5
 refine h _ Cn ⟨g5.kp.trans RC.kp,g5.lam.keep RC,fun p hp=>?_⟩ ((aB.kp s5).trans RC.kp);have Jy:p≠d:=fun e=>by rw [e,au] at hp;cases hp
 exact g5.fr p (by rw [aH Jy] at hp;exact hp)
noncomputable abbrev yA (Z:cg) (K:PySem.W.Frag):List V→Sp:=fun dH vs H Q _=>∃ (x0 x1 x2 b0:V) (g:Addr),dH=[x0,x1,x2]∧vs=[.ref g]∧H g=some (.lst [b0])∧(lh Z K) [x0,x1,x2,b0] H Q E0
noncomputable abbrev qe (Z:cg) (_:PySem.W.Frag):Sp:=fun vs H Q _=>∃ (t:Addr) (s:Rd18.Abs) (a to k wy:Int),vs=[.ref t,.int a,.int to,.int k,.int wy]∧pd Z H t s∧i9 Z t (Rd18.does s (.cast a to k wy)) H Q
theorem dw {c:Int} (h:Rd18.isCol c=true):∃ n:Nat,c=n∧n < 16:=by
 rw [bI,decide_eq_true_eq] at h;exact ⟨c.toNat,by omega,by omega⟩
theorem KR {c:Int} (h:Rd18.isKind c=true):∃ n:Nat,c=n∧n≤8:=by
 rw [kN,decide_eq_true_eq] at h;exact ⟨c.toNat,by omega,by omega⟩
theorem E1 {c:Int} (h:Rd18.isWay c=true):∃ n:Nat,c=n∧n≤3:=by
 rw [yu,decide_eq_true_eq] at h;exact ⟨c.toNat,by omega,by omega⟩
theorem yB (T:Ty K mg Z) (aQ:ae P w K mg base 2 "refusal_of_taken" ["table","taken","only_broken"] (bX Z K)) (bO:ae P w K mg base 1 "count_missing" ["numbers"] (eL Z K)) (aL:ae P w K mg base 1 "are_columns" ["numbers"] (bH Z K)) (gG:ae P w K mg base 1 "is_kind" ["kind"] Au) (nS:ae P w K mg base 1 "is_way" ["way"] IB) (m9:ae P w K mg base 6 "cast_number" ["old","new","way","bits"] (lh Z K)) (bz:lO P w K mg base 1 "Column" Z.CC ["kind","numbers"])  (M:qc P w K mg base Z) (ND:((tabs Z).map (·.1)).Nodup) (L:j7 mg base fd.code Z.IE) (D:aX K mg "cast_column" gY ["table","source","to","kind","way"] f fd):ae P w K mg base 16 "cast_column" ["table","source","to","kind","way"] (qe Z K):=by
 refine ae.Lr D iY (fun vs H Q E h=>?_) (fun bJ nW A outer s H vs Q E hr h=>?_)
 ·obtain ⟨t,s,a,to,k,wy,rfl,_⟩:=h;rfl
 ·obtain ⟨t,s,a,to,k,wy,rfl,ok,q⟩:=h;subst nW;obtain ⟨fm,Nr,E2,E3,rE,Fm⟩:=M.ex;refine ⟨_,(ai (aR (eU (PW.pt (fK (aN (ah aL (hr.mono (by decide)) (aa (aP (aa (pv 1) (aa (pv 2) ag))) ag))) (fK (aN (ah gG (hr.mono (by decide)) (aa (pv 3) ag))) (gx (aN (ah nS (hr.mono (by decide)) (aa (pv 4) ag)))))))) (aj (ao (aP (aa (aM T.bb) ag)))) aw)
   (ai (aO (i:=5) iY.nd rfl (by first | exact Or.inl rfl | exact Or.inr rfl) (ah aQ (hr.mono (by decide)) (aa (pv 0) (aa (aP (aa (pv 1) ag)) (aa tm ag)))))
   (ai (aR (aG lY (pv 5) (aM T.dB) (aJ _)) (aj (ao (aP (aa (pv 5) ag)))) aw)
   (ai (aO (i:=6) iY.nd rfl (by first | exact Or.inl rfl | exact Or.inr rfl) (aE (cu (cQ hr) (aE (pv 0) rfl) (pv 1) (fun _ _=>rfl)) rfl))
   (ai (aO (i:=7) iY.nd rfl (by first | exact Or.inl rfl | exact Or.inr rfl) (jU (j:=12) (T:=Z.IE) (N:=["given","old","kind","way"]) (qs:=["given"]) (js:=[6,3,4]) (ls:=(yA Z K)) Fm (hr.mono (by decide)) (by rfl) E2 E3 rE nD (pv 0) (aP (aa (pv 1) ag)) L rfl (y8 rfl rfl rfl (by decide +kernel) rfl (by decide +kernel) (by decide +kernel) (by decide +kernel)) (mV (by decide +kernel)) (by rfl) (by decide +kernel) (jK (sc:=ak gY) (by decide +kernel)) (fun dH vs H Q E h=>by obtain ⟨_,_,_,_,gg,_,rfl,_⟩:=h;rfl) (fun cl pm bJ ct us hl=>match us,hl with | [_],_=>rfl)
     (fun dH fl cl A outer cd s H vs Q E hN hr h=>by
      obtain ⟨x0,x1,x2,b0,gg,rfl,rfl,hg,q⟩:=h;exact ⟨_,(ah m9 (hr.mono (by decide)) (aa (pv 1) (aa (pv 2) (aa (pv 3) (aa (bu aU (pv 0) ar (fun _ _=>rfl)) ag))))),_,rfl,_,rfl,_,rfl,_,rfl,gg,_,0,_,rfl,rfl,bU.of hg,aI (j:=0) rfl,q⟩)))
   (ai (iH (cQ hr) (aE (pv 0) rfl) (pv 2) (dQ bz (hr.mono (by decide)) (aa (pv 3) (aa (pv 7) ag))) rfl)
   (aj (ao (aP (aa (ah bO (hr.mono (by decide)) (aa (pv 7) ag)) ag)))))))))),?_⟩
  have dh:Rd18.does s (.cast a to k wy)=Rd18.of1 s a (Rd18.isCol a&&(Rd18.isCol to&&(Rd18.isKind k&&Rd18.isWay wy))) false fun x=>(Rd18.set_ s to { kind:=k.toNat,cells:=Rd18.each x.cells fun b=>Rd18.made k.toNat wy.toNat (Rd18.worth x.kind b) },Rd18.just (Rd18.missing (Rd18.each x.cells fun b=>Rd18.made k.toNat wy.toNat (Rd18.worth x.kind b)):Nat)):=rfl;rw [dh] at q;have bad:(Rd18.isCol a&&(Rd18.isCol to&&(Rd18.isKind k&&Rd18.isWay wy)))=false→∀ H1,aB H H1→∀ p,H1 p=none→Q (.ref p) (upd H1 p (.lst [.int (-2)])):=fun h H1 s1=>by
   rw [h] at q;exact bQ ok s1 rfl rfl q
  obtain ⟨d,tb⟩:=ok.tab;refine ⟨_,rfl,_,rfl,by show 2≤sizeLine;decide,oX (Z:=Z) (ns:=[a,to]) (by show 2≤100;decide) fun H1 s1=>?_⟩;have e1:([a,to].all fun c=>decide (0≤c∧c≤15))=(Rd18.isCol a&&Rd18.isCol to):=by rw [bI,bI];simp
  rw [e1];refine kJ (fun h1=>?_) (fun h1=>eO ⟨by show 1≤sizeLine;decide,bad (by rw [← Bool.and_assoc,h1];rfl) H1 s1⟩);refine ⟨_,rfl,k,rfl,_,rfl,?_⟩;rw [← kN];refine kJ (fun h2=>?_) (fun h2=>eO ⟨by show 1≤sizeLine;decide,bad (by rw [← Bool.and_assoc,h1,h2];rfl) H1 s1⟩);refine ⟨_,rfl,wy,rfl,_,rfl,?_⟩;rw [← yu];refine yz (fun h3=>⟨by show 1≤sizeLine;decide,bad (by rw [← Bool.and_assoc,h1,h2,h3];rfl) H1 s1⟩) (fun h3=>?_);rw [← Bool.and_assoc,h1,h2,h3] at q;obtain ⟨DX,vS⟩:=Bool.and_eq_true_iff.mp h1;obtain ⟨an,rfl,ha⟩:=dw DX;obtain ⟨tn,rfl,Jd⟩:=dw vS;obtain ⟨kn,rfl,RD⟩:=KR h2;obtain ⟨wn,rfl,RE⟩:=E1 h3;rw [Int.toNat_natCast,Int.toNat_natCast] at q;refine ⟨_,rfl,_,rfl,by show 1≤sizeLine;decide,fun A hA=>?_⟩;have sA:aB H (upd H1 A (.lst [.int (an:Int)])):=s1.trans (ax (aB.refl H1) hA);refine ⟨t,d,A,s,[an],false,rfl,tb.same sA,bU.of au,by simp,by simp,by simpa using ha,fun H2 s2=>?_⟩;have lQ:=sA.trans s2;have g2:=Go.same ok.lam lQ;refine ⟨_,rfl,rfl,_,rfl,iA (fun kW=>?_) (fun heq=>?_)⟩
  ·rcases jx (s:=s) an false _ with ⟨h0,_⟩ | ⟨h0,he⟩
   ·exact absurd (by rw [h0]) kW
   ·have q':=he▸q;exact ⟨_,rfl,by show 1≤sizeLine;decide,mZ tb g2 rfl rfl q'⟩
  ·rcases jx (s:=s) an false _ with ⟨h0,x,hx,GV,he⟩ | ⟨h0,he⟩
   ·have q':=he▸q;have wf:=tb.wf;have wx:=wf.col an x hx;refine gH T (tb.same lQ) ha hx rfl rfl ?_;refine ⟨_,rfl,_,rfl,by show 1≤sizeLine;decide,fun B hB=>?_⟩;refine mv (K:=K) (cs:=[an]) (xs:=[x]) (res:=fun bs=>d6 (Rd18.made kn wn (Rd18.worth x.kind (bs.headD 0)))) [.int x.kind,.int kn,.int wn] tb g2 ND List.mem_cons_self hB (by simp) (by simpa using ha) rfl (by simp only [List.map_cons,List.map_nil,hx]) rfl
     (fun i bs H4 gg Q' hi hb hg hq=>?_) fun r H4 g4 wD=>?_
    ·obtain ⟨b,rfl,rE⟩:=t5 hb;exact ⟨_,_,_,_,gg,rfl,rfl,hg,x.kind,kn,wn,b,rfl,wx.kind,RD,RE,wx.bits b rE,hq⟩
    ·have vT:H4 r=some (.lst (cells (Rd18.each x.cells fun b=>Rd18.made kn wn (Rd18.worth x.kind b)))):=by
      rw [← qQ wx.len]
      ·exact wD
      ·intro b;rfl
     refine gN ?_;dsimp only;refine sq (i5 T (k:=kn) (c:=tn) (g4.tab tb) g4.ky Jd vT (EZ wx.len RD fun b c hb hc=>KQ RD hc) rfl rfl rfl (fun R hR=>⟨_,rfl,hR⟩) fun H6 Cn k6 JB=>?_);have wl:=wf.rows;refine ⟨_,rfl,r,_,rfl,bU.of (JB _ _ vT (.inl ⟨_,rfl⟩)),by unfold Rd18.each;rw [List.length_map,wx.len];omega,fun H7 s7=>⟨by show 1≤sizeLine;decide,?_⟩⟩;exact m8 (Cn.same s7) (k6.then s7) q' rfl rfl
   ·exact absurd (V.int.inj heq) h0
end
noncomputable def DY (wh:Bool) (k w n b:Nat):Nat:=if wh=true then Rd18.near k (Rd18.multiple w n (Rd18.worth k b)) else Rd18.near k (Rd18.restOf w n (Rd18.worth k b))
noncomputable abbrev Te (wh:Bool):Sp:=fun vs H Q _=>∃ k w n b:Nat,vs=[.int k,.int w,.int n,.int b]∧Bk k∧w≤3∧n≤15∧Vb k b∧pX (DY wh k w n b) H Q
section
variable {P:Program} {w:World} {K:PySem.W.Frag} {mg:Str→Option Value} {base:Heap} {f:Addr} {fd:FuncData} {Z:cg} {H H1 H2:Hp} {Q:VK} {E:XK} {CF t d:Addr} {s:Rd18.Abs}
theorem KS {k:Nat} (hk:Bk k) (wh:Bool) (w n b:Nat):Vk k (DY wh k w n b):=by
 unfold DY;split <;> exact qR hk _
theorem AW {x:Rd18.Column} {n:Nat} (wx:AK n x) {g:Nat→Nat} (hg:∀ b,Vk x.kind (g b)):AK n { kind:=x.kind,cells:=Rd18.each x.cells fun b=>some (g b) } :=
 EZ wx.len wx.kind fun b c _ e=>by rw [← Option.some.inj e];exact hg b
noncomputable abbrev RF (wh:Bool):Str:=if wh=true then "whole_number" else "rest_number"
noncomputable abbrev vU (wh:Bool) (fw:Addr):List V→Sp:=fun dH vs H Q _=>∃ (x0 x1 x2 x3 b0:V) (g:Addr),dH=[.ref fw,x1,x2,x3]∧vs=[.ref g]∧H g=some (.lst [b0])∧Te wh [x1,x2,x3,b0] H Q E0
noncomputable abbrev km (Z:cg) (_:PySem.W.Frag) (mg:Str→Option Value):Sp:=fun vs H Q _=>∃ (t:Addr) (s:Rd18.Abs) (a to wy n:Int) (wh:Bool) (fw:Addr),vs=[.ref t,.int a,.int to,.int wy,.int n,.ref fw]∧mg (RF wh)=some (.ref fw)∧pd Z H t s∧i9 Z t (Rd18.does s (if wh=true then .whole a to wy n else .rest a to wy n)) H Q
theorem vV (T:Ty K mg Z) (aQ:ae P w K mg base 2 "refusal_of_taken" ["table","taken","only_broken"] (bX Z K)) (aL:ae P w K mg base 1 "are_columns" ["numbers"] (bH Z K)) (nS:ae P w K mg base 1 "is_way" ["way"] IB) (bz:lO P w K mg base 1 "Column" Z.CC ["kind","numbers"]) (cS:ae P w K mg base 4 "whole_number" ["kind","way","parts","bits"] (g7 Z K)) (fJ:ae P w K mg base 6 "rest_number" ["kind","way","parts","bits"] (lj Z K)) (M:qc P w K mg base Z) (ND:((tabs Z).map (·.1)).Nodup) (L:j7 mg base fd.code Z.DF) (D:aX K mg "round_column" gq ["table","source","to","way","parts","make"] f fd):ae P w K mg base 16 "round_column" ["table","source","to","way","parts","make"] (km Z K mg):=by
 refine ae.Lr D hF (fun vs H Q E h=>?_) (fun bJ nW A outer s H vs Q E hr h=>?_)
 ·obtain ⟨t,s,a,to,wy,n,wh,fw,rfl,_⟩:=h;rfl
 ·obtain ⟨t,s,a,to,wy,n,wh,fw,rfl,hw,ok,q⟩:=h;subst nW;obtain ⟨fm,Nr,E2,E3,rE,Fm⟩:=M.ex;have FW:∃ RG,PySem.W.keepIn K (.ref fw)=true∧Binds K RG ["kind","way","parts","bits"] []∧qV P w K mg base Bc 6 fw RG ["kind","way","parts","bits"] (Te wh):=by
   cases wh with
   | true =>
    obtain ⟨f',RH,h1,h2,h3,h4⟩:=cS.ex;have e:f'=fw:=by have:=h1.symm.trans hw;injection this with this;injection this
    subst e;exact ⟨RH,h2,h3,h4.mono (by decide)⟩
   | false =>
    obtain ⟨f',RH,h1,h2,h3,h4⟩:=fJ.ex;have e:f'=fw:=by have:=h1.symm.trans hw;injection this with this;injection this
    subst e;exact ⟨RH,h2,h3,h4⟩
  obtain ⟨RG,VN,VO,FW⟩:=FW;refine ⟨_,(ai (aR (eU (PW.pt (fK (aN (ah aL (hr.mono (by decide)) (aa (aP (aa (pv 1) (aa (pv 2) ag))) ag))) (fK (aN (ah nS (hr.mono (by decide)) (aa (pv 3) ag))) (gx (Bv gK gK ar (pv 4) (aM T.kG))))))) (aj (ao (aP (aa (aM T.bb) ag)))) aw)
   (ai (aO (i:=6) hF.nd rfl (by first | exact Or.inl rfl | exact Or.inr rfl) (ah aQ (hr.mono (by decide)) (aa (pv 0) (aa (aP (aa (pv 1) ag)) (aa tm ag)))))
   (ai (aR (aG lY (pv 6) (aM T.dB) (aJ _)) (aj (ao (aP (aa (pv 6) ag)))) aw)
   (ai (aO (i:=7) hF.nd rfl (by first | exact Or.inl rfl | exact Or.inr rfl) (aE (cu (cQ hr) (aE (pv 0) rfl) (pv 1) (fun _ _=>rfl)) rfl))
   (ai (aO (i:=8) hF.nd rfl (by first | exact Or.inl rfl | exact Or.inr rfl) (jU (j:=12) (T:=Z.DF) (N:=["given","make","kind","way","parts"]) (qs:=["given"]) (js:=[5,7,3,4]) (ls:=(vU wh fw)) Fm (hr.mono (by decide)) (by rfl) E2 E3 rE nD (pv 0) (aP (aa (pv 1) ag)) L rfl (y8 rfl rfl rfl (by decide +kernel) rfl (by decide +kernel) (by decide +kernel) (by decide +kernel)) (mV (by decide +kernel)) (by rfl) (by decide +kernel) (jK (sc:=ak gq) (by decide +kernel)) (fun dH vs H Q E h=>by obtain ⟨_,_,_,_,_,gg,_,rfl,_⟩:=h;rfl) (fun cl pm bJ ct us hl=>match us,hl with | [_],_=>rfl)
     (fun dH fl cl A outer cd s H vs Q E hN hr h=>by
      obtain ⟨x0,x1,x2,x3,b0,gg,rfl,rfl,hg,q⟩:=h;exact ⟨_,(Ie (i:=1) rfl (Or.inr (Or.inr rfl)) FW (hr.mono (by decide)) VN VO nD (aa (pv 2) (aa (pv 3) (aa (pv 4) (aa (bu aU (pv 0) ar (fun _ _=>rfl)) ag))))),rfl,_,rfl,_,rfl,_,rfl,_,rfl,gg,_,0,_,rfl,rfl,bU.of hg,aI (j:=0) rfl,q⟩)))
   (ai (iH (cQ hr) (aE (pv 0) rfl) (pv 2) (dQ bz (hr.mono (by decide)) (aa (pv 7) (aa (pv 8) ag))) rfl)
   (aj (ao (aP (aa (aM T.dB) ag)))))))))),?_⟩
  have dh:Rd18.does s (if wh=true then .whole a to wy n else .rest a to wy n)=Rd18.of1 s a (Rd18.isCol a&&(Rd18.isCol to&&(Rd18.isWay wy&&(decide (0≤n)&&decide (n≤15))))) true fun x=>(Rd18.set_ s to { x with cells:=Rd18.each x.cells fun b=>some (DY wh x.kind wy.toNat n.toNat b) },Rd18.just 0):=by cases wh <;> rfl
  rw [dh] at q;have bad:(Rd18.isCol a&&(Rd18.isCol to&&(Rd18.isWay wy&&(decide (0≤n)&&decide (n≤15)))))=false→∀ H1,aB H H1→∀ p,H1 p=none→Q (.ref p) (upd H1 p (.lst [.int (-2)])):=fun h H1 s1=>by
   rw [h] at q;exact bQ ok s1 rfl rfl q
  obtain ⟨d,tb⟩:=ok.tab;refine ⟨_,rfl,_,rfl,by show 2≤sizeLine;decide,oX (Z:=Z) (ns:=[a,to]) (by show 2≤100;decide) fun H1 s1=>?_⟩;have e1:([a,to].all fun c=>decide (0≤c∧c≤15))=(Rd18.isCol a&&Rd18.isCol to):=by rw [bI,bI];simp
  rw [e1];refine kJ (fun h1=>?_) (fun h1=>eO ⟨by show 1≤sizeLine;decide,bad (by rw [← Bool.and_assoc,h1];rfl) H1 s1⟩);refine ⟨_,rfl,wy,rfl,_,rfl,?_⟩;rw [← yu];refine kJ (fun h3=>?_) (fun h3=>eO ⟨by show 1≤sizeLine;decide,bad (by rw [← Bool.and_assoc,h1,h3];rfl) H1 s1⟩);have OH:¬ (0≤n∧n≤15)→∀ p,H1 p=none→Q (.ref p) (upd H1 p (.lst [.int (-2)])):=fun hn=>bad (by
   rw [← Bool.and_assoc,h1,h3,← Bool.decide_and,decide_eq_false hn];rfl) H1 s1
  refine ⟨_,rfl,0,n,rfl,rfl,_,rfl,lP (fun JI=>⟨n,15,rfl,rfl,_,rfl,iA (fun RI=>⟨by show 1≤sizeLine;decide,OH (fun h=>RI h.2)⟩) (fun RI=>?_)⟩) (fun JI=>⟨_,rfl,eO ⟨by show 1≤sizeLine;decide,OH (fun h=>JI h.1)⟩⟩)⟩;rw [← Bool.and_assoc,h1,h3,decide_eq_true JI,decide_eq_true RI] at q;obtain ⟨DX,vS⟩:=Bool.and_eq_true_iff.mp h1;obtain ⟨an,rfl,ha⟩:=dw DX;obtain ⟨tn,rfl,Jd⟩:=dw vS;obtain ⟨wn,rfl,RE⟩:=E1 h3;obtain ⟨nn,rfl⟩:∃ m:Nat,n=m:=⟨n.toNat,by omega⟩;rw [Int.toNat_natCast,Int.toNat_natCast] at q;refine ⟨_,rfl,_,rfl,by show 1≤sizeLine;decide,fun A hA=>?_⟩;have sA:aB H (upd H1 A (.lst [.int (an:Int)])):=s1.trans (ax (aB.refl H1) hA);refine ⟨t,d,A,s,[an],true,rfl,tb.same sA,bU.of au,by simp,by simp,by simpa using ha,fun H2 s2=>?_⟩;have lQ:=sA.trans s2;have g2:=Go.same ok.lam lQ;refine ⟨_,rfl,rfl,_,rfl,iA (fun kW=>?_) (fun heq=>?_)⟩
  ·rcases jx (s:=s) an true _ with ⟨h0,_⟩ | ⟨h0,he⟩
   ·exact absurd (by rw [h0]) kW
   ·have q':=he▸q;exact ⟨_,rfl,by show 1≤sizeLine;decide,mZ tb g2 rfl rfl q'⟩
  ·rcases jx (s:=s) an true _ with ⟨h0,x,hx,GV,he⟩ | ⟨h0,he⟩
   ·have q':=he▸q;have wf:=tb.wf;have wx:=wf.col an x hx;have bk:Bk x.kind:=zQ wx.kind (GV rfl);refine gH T (tb.same lQ) ha hx rfl rfl ?_;refine ⟨_,rfl,_,rfl,by show 1≤sizeLine;decide,fun B hB=>?_⟩;refine mv (K:=K) (cs:=[an]) (xs:=[x]) (res:=fun bs=>.int (DY wh x.kind wn nn (bs.headD 0))) [.ref fw,.int x.kind,.int wn,.int nn] tb g2 ND (List.mem_cons_of_mem _ List.mem_cons_self) hB (by simp) (by simpa using ha) rfl (by simp only [List.map_cons,List.map_nil,hx]) rfl
     (fun i bs H4 gg Q' hi hb hg hq=>?_) fun r H4 g4 wD=>?_
    ·obtain ⟨b,rfl,rE⟩:=t5 hb;exact ⟨.dR,_,_,_,_,gg,rfl,rfl,hg,x.kind,wn,nn,b,rfl,bk,RE,by omega,(wx.bits b rE).vb bk,hq⟩
    ·have vT:H4 r=some (.lst (cells (Rd18.each x.cells fun b=>some (DY wh x.kind wn nn b)))):=by
      rw [← qQ wx.len]
      ·exact wD
      ·intro b;rfl
     refine gN ?_;dsimp only;refine sq (i5 T (k:=x.kind) (c:=tn) (g4.tab tb) g4.ky Jd vT (AW wx (g:=fun b=>DY wh x.kind wn nn b) fun b=>KS bk _ _ _ _) rfl rfl rfl (fun R hR=>⟨_,rfl,hR⟩) fun H6 Cn k6 JB=>⟨by show 1≤sizeLine;decide,?_⟩);exact m8 Cn k6 q' rfl rfl
   ·exact absurd (V.int.inj heq) h0
noncomputable abbrev oY (Z:cg) (_:PySem.W.Frag):Sp:=fun vs H Q _=>∃ (t:Addr) (s:Rd18.Abs) (a to wy n:Int),vs=[.ref t,.int a,.int to,.int wy,.int n]∧pd Z H t s∧i9 Z t (Rd18.does s (.whole a to wy n)) H Q
noncomputable abbrev qg (Z:cg) (_:PySem.W.Frag):Sp:=fun vs H Q _=>∃ (t:Addr) (s:Rd18.Abs) (a to wy n:Int),vs=[.ref t,.int a,.int to,.int wy,.int n]∧pd Z H t s∧i9 Z t (Rd18.does s (.rest a to wy n)) H Q
theorem vW (T:Ty K mg Z) (eN:ae P w K mg base 16 "round_column" ["table","source","to","way","parts","make"] (km Z K mg)) (cS:ae P w K mg base 4 "whole_number" ["kind","way","parts","bits"] (g7 Z K)) (D:aX K mg "whole_column" lB ["table","source","to","way","parts"] f fd):ae P w K mg base 17 "whole_column" ["table","source","to","way","parts"] (oY Z K):=by
 refine ae.of D vR (fun vs H Q E h=>?_) (fun bJ A outer s H vs Q E hr h=>?_)
 ·obtain ⟨t,s,a,to,wy,n,rfl,_⟩:=h;rfl
 ·obtain ⟨t,s,a,to,wy,n,rfl,ok,q⟩:=h;obtain ⟨qh,_,oZ,_⟩:=cS.ex;refine ⟨_,(aj (ao (ah eN (hr.mono (by decide)) (aa (pv 0) (aa (pv 1) (aa (pv 2) (aa (pv 3) (aa (pv 4) (aa (z0 (v:=.ref qh) (by rfl) oZ rfl) ag))))))))),?_⟩;exact ⟨_,rfl,_,rfl,_,rfl,_,rfl,_,rfl,t,s,a,to,wy,n,true,qh,rfl,oZ,ok,q⟩
theorem yC (T:Ty K mg Z) (eN:ae P w K mg base 16 "round_column" ["table","source","to","way","parts","make"] (km Z K mg)) (fJ:ae P w K mg base 6 "rest_number" ["kind","way","parts","bits"] (lj Z K)) (D:aX K mg "rest_column" mX ["table","source","to","way","parts"] f fd):ae P w K mg base 17 "rest_column" ["table","source","to","way","parts"] (qg Z K):=by
 refine ae.of D yr (fun vs H Q E h=>?_) (fun bJ A outer s H vs Q E hr h=>?_)
 ·obtain ⟨t,s,a,to,wy,n,rfl,_⟩:=h;rfl
 ·obtain ⟨t,s,a,to,wy,n,rfl,ok,q⟩:=h;obtain ⟨rL,_,qj,_⟩:=fJ.ex;refine ⟨_,(aj (ao (ah eN (hr.mono (by decide)) (aa (pv 0) (aa (pv 1) (aa (pv 2) (aa (pv 3) (aa (pv 4) (aa (z0 (v:=.ref rL) (by rfl) qj rfl) ag))))))))),?_⟩;exact ⟨_,rfl,_,rfl,_,rfl,_,rfl,_,rfl,t,s,a,to,wy,n,false,rL,rfl,qj,ok,q⟩
end
section
variable {P:Program} {w:World} {K:PySem.W.Frag} {mg:Str→Option Value} {base:Heap} {f:Addr} {fd:FuncData} {Z:cg} {H H1 H2:Hp} {Q:VK} {E:XK} {CF t d:Addr} {s:Rd18.Abs}
theorem E4 {x y:Rd18.Column} {n:Nat} (wx:AK n x) (wy:AK n y) {g:Nat→Nat→Nat} (hg:∀ a b,Vk x.kind (g a b)):AK n { kind:=x.kind,cells:=Rd18.both x.cells y.cells g }:=by
 rw [wW wx.len wy.len];refine ⟨wx.kind,by simp,fun c hc=>?_⟩;have hc:some c∈(List.range n).map _:=hc;obtain ⟨i,_,e⟩:=List.mem_map.mp hc;cases h1:x.cells.getD i none with
 | none=>simp only [h1] at e;cases e
 | some a =>
  cases h2:y.cells.getD i none with
  | none=>simp only [h1,h2] at e;cases e
  | some b =>
   simp only [h1,h2] at e;rw [← Option.some.inj e];exact hg a b
theorem Je {x y z:Rd18.Column} {n:Nat} (wx:AK n x) (wy:AK n y) (wz:AK n z) {g:Nat→Nat→Nat→Nat} (hg:∀ a b c,Vk x.kind (g a b c)):AK n { kind:=x.kind,cells:=Rd18.three x.cells y.cells z.cells g }:=by
 rw [vf wx.len wy.len wz.len];refine ⟨wx.kind,by simp,fun c hc=>?_⟩;have hc:some c∈(List.range n).map _:=hc;obtain ⟨i,_,e⟩:=List.mem_map.mp hc;cases h1:x.cells.getD i none with
 | none=>simp only [h1] at e;cases e
 | some a =>
  cases h2:y.cells.getD i none with
  | none=>simp only [h1,h2] at e;cases e
  | some b =>
   cases h3:z.cells.getD i none with
   | none=>simp only [h1,h2,h3] at e;cases e
   | some c =>
    simp only [h1,h2,h3] at e;rw [← Option.some.inj e];exact hg a b c
theorem OI {k o:Nat} (hk:k≤8) (ho:o≤5) (h5:o=5→Bk k) (a b:Nat):Vk k (Rd18.op k o a b):=by
 unfold Rd18.op;rcases kR hk with h6 | hb
 ·rw [if_neg (by rw [eS h6];decide)];exact zP _
 ·rw [if_pos hb.broken];exact qR hb _
noncomputable abbrev Gx (Z:cg) (K:PySem.W.Frag):List V→Sp:=fun dH vs H Q _=>∃ (x0 b0:V) (g:Addr),dH=[x0]∧vs=[.ref g]∧H g=some (.lst [b0])∧(kh Z K) [x0,b0] H Q E0
noncomputable abbrev Gy (Z:cg) (K:PySem.W.Frag):List V→Sp:=fun dH vs H Q _=>∃ (x0 b0:V) (g:Addr),dH=[x0]∧vs=[.ref g]∧H g=some (.lst [b0])∧(lp Z K) [x0,b0] H Q E0
noncomputable abbrev o1 (Z:cg) (_:PySem.W.Frag):Sp:=fun vs H Q _=>∃ (t:Addr) (s:Rd18.Abs) (a p q:Int),vs=[.ref t,.int a,.int p,.int q]∧pd Z H t s∧i9 Z t (Rd18.does s (.split a p q)) H Q
theorem vX (T:Ty K mg Z) (aQ:ae P w K mg base 2 "refusal_of_taken" ["table","taken","only_broken"] (bX Z K)) (aL:ae P w K mg base 1 "are_columns" ["numbers"] (bH Z K)) (lD:ae P w K mg base 5 "power_number" ["kind","bits"] (kh Z K)) (ng:ae P w K mg base 4 "part_number" ["kind","bits"] (lp Z K)) (bz:lO P w K mg base 1 "Column" Z.CC ["kind","numbers"])  (M:qc P w K mg base Z) (ND:((tabs Z).map (·.1)).Nodup) (L:j7 mg base fd.code Z.Ay) (D:aX K mg "split_column" eM ["table","source","power","part"] f fd):ae P w K mg base 16 "split_column" ["table","source","power","part"] (o1 Z K):=by
 refine ae.Lr D fq (fun vs H Q E h=>?_) (fun bJ nW A outer s H vs Q E hr h=>?_)
 ·obtain ⟨t,s,a,p,qn,rfl,_⟩:=h;rfl
 ·obtain ⟨t,s,a,p,qn,rfl,ok,q⟩:=h;subst nW;obtain ⟨fm,Nr,E2,E3,rE,Fm⟩:=M.ex;refine ⟨_,(ai (aR (PW.pt (ku (aG bD (pv 2) (pv 3) (aJ _)) (hW (eU (aN (ah aL (hr.mono (by decide)) (aa (aP (aa (pv 1) (aa (pv 2) (aa (pv 3) ag)))) ag))))))) (aj (ao (aP (aa (aM T.bb) ag)))) aw)
   (ai (aO (i:=4) fq.nd rfl (by first | exact Or.inl rfl | exact Or.inr rfl) (ah aQ (hr.mono (by decide)) (aa (pv 0) (aa (aP (aa (pv 1) ag)) (aa tm ag)))))
   (ai (aR (aG lY (pv 4) (aM T.dB) (aJ _)) (aj (ao (aP (aa (pv 4) ag)))) aw)
   (ai (aO (i:=5) fq.nd rfl (by first | exact Or.inl rfl | exact Or.inr rfl) (aE (cu (cQ hr) (aE (pv 0) rfl) (pv 1) (fun _ _=>rfl)) rfl))
   (ai (aO (i:=6) fq.nd rfl (by first | exact Or.inl rfl | exact Or.inr rfl) (jU (j:=12) (T:=Z.Ay) (N:=["given","kind"]) (qs:=["given"]) (js:=[5]) (ls:=(Gx Z K)) Fm (hr.mono (by decide)) (by rfl) E2 E3 rE nD (pv 0) (aP (aa (pv 1) ag)) L rfl (y8 rfl rfl rfl (by decide +kernel) rfl (by decide +kernel) (by decide +kernel) (by decide +kernel)) (mV (by decide +kernel)) (by rfl) (by decide +kernel) (jK (sc:=ak eM) (by decide +kernel)) (fun dH vs H Q E h=>by obtain ⟨_,_,gg,_,rfl,_⟩:=h;rfl) (fun cl pm bJ ct us hl=>match us,hl with | [_],_=>rfl)
     (fun dH fl cl A outer cd s H vs Q E hN hr h=>by
      obtain ⟨x0,b0,gg,rfl,rfl,hg,q⟩:=h;exact ⟨_,(ah lD (hr.mono (by decide)) (aa (pv 1) (aa (bu aU (pv 0) ar (fun _ _=>rfl)) ag))),_,rfl,_,rfl,gg,_,0,_,rfl,rfl,bU.of hg,aI (j:=0) rfl,q⟩)))
   (ai (aO (i:=7) fq.nd rfl (by first | exact Or.inl rfl | exact Or.inr rfl) (jU (j:=12) (T:=Z.Ay) (N:=["given","kind"]) (qs:=["given"]) (js:=[5]) (ls:=(Gy Z K)) Fm (hr.mono (by decide)) (by rfl) E2 E3 rE nD (pv 0) (aP (aa (pv 1) ag)) L rfl (y8 rfl rfl rfl (by decide +kernel) rfl (by decide +kernel) (by decide +kernel) (by decide +kernel)) (mV (by decide +kernel)) (by rfl) (by decide +kernel) (jK (sc:=ak eM) (by decide +kernel)) (fun dH vs H Q E h=>by obtain ⟨_,_,gg,_,rfl,_⟩:=h;rfl) (fun cl pm bJ ct us hl=>match us,hl with | [_],_=>rfl)
     (fun dH fl cl A outer cd s H vs Q E hN hr h=>by
      obtain ⟨x0,b0,gg,rfl,rfl,hg,q⟩:=h;exact ⟨_,(ah ng (hr.mono (by decide)) (aa (pv 1) (aa (bu aU (pv 0) ar (fun _ _=>rfl)) ag))),_,rfl,_,rfl,gg,_,0,_,rfl,rfl,bU.of hg,aI (j:=0) rfl,q⟩)))
   (ai (iH (cQ hr) (aE (pv 0) rfl) (pv 2) (dQ bz (hr.mono (by decide)) (aa (pv 5) (aa (pv 6) ag))) rfl)
   (ai (iH (cQ hr) (aE (pv 0) rfl) (pv 3) (dQ bz (hr.mono (by decide)) (aa (pv 5) (aa (pv 7) ag))) rfl)
   (aj (ao (aP (aa (aM T.dB) ag)))))))))))),?_⟩
  have dh:Rd18.does s (.split a p qn)=Rd18.of1 s a (Rd18.isCol a&&(Rd18.isCol p&&(Rd18.isCol qn&&decide (p≠qn)))) true fun x=>(Rd18.set_ (Rd18.set_ s p { x with cells:=Rd18.each x.cells fun b=>some (Rd18.near x.kind (Rd18.powerOf (Rd18.worth x.kind b))) }) qn { x with cells:=Rd18.each x.cells fun b=>some (Rd18.near x.kind (Rd18.partOf (Rd18.worth x.kind b))) },Rd18.just 0):=rfl;rw [dh] at q;have bad:(Rd18.isCol a&&(Rd18.isCol p&&(Rd18.isCol qn&&decide (p≠qn))))=false→∀ H1,aB H H1→∀ p,H1 p=none→Q (.ref p) (upd H1 p (.lst [.int (-2)])):=fun h H1 s1=>by
   rw [h] at q;exact bQ ok s1 rfl rfl q
  obtain ⟨d,tb⟩:=ok.tab;refine ⟨_,rfl,_,rfl,rfl,_,rfl,lP (fun he=>⟨by show 1≤sizeLine;decide,bad (by rw [decide_eq_false (fun h:p≠qn=>h (V.int.inj he))];simp) H (aB.refl H)⟩) (fun kW=>?_)⟩;have Tf:p≠qn:=fun e=>kW (by rw [e]);refine ⟨_,rfl,_,rfl,_,rfl,by show 3≤sizeLine;decide,oX (Z:=Z) (ns:=[a,p,qn]) (by show 3≤100;decide) fun H1 s1=>?_⟩;have e1:([a,p,qn].all fun c=>decide (0≤c∧c≤15))=(Rd18.isCol a&&(Rd18.isCol p&&Rd18.isCol qn)):=by rw [bI,bI,bI];simp
  rw [e1];refine yz (fun h1=>⟨by show 1≤sizeLine;decide,bad (by rw [decide_eq_true Tf,Bool.and_true];exact h1) H1 s1⟩) (fun h1=>?_);rw [decide_eq_true Tf,Bool.and_true,h1] at q;obtain ⟨DX,vS⟩:=Bool.and_eq_true_iff.mp h1;obtain ⟨vS,Jf⟩:=Bool.and_eq_true_iff.mp vS;obtain ⟨an,rfl,ha⟩:=dw DX;obtain ⟨pn,rfl,VP⟩:=dw vS;obtain ⟨qm,rfl,Qa⟩:=dw Jf;refine ⟨_,rfl,_,rfl,by show 1≤sizeLine;decide,fun A hA=>?_⟩;have sA:aB H (upd H1 A (.lst [.int (an:Int)])):=s1.trans (ax (aB.refl H1) hA);refine ⟨t,d,A,s,[an],true,rfl,tb.same sA,bU.of au,by simp,by simp,by simpa using ha,fun H2 s2=>?_⟩;have lQ:=sA.trans s2;have g2:=Go.same ok.lam lQ;refine ⟨_,rfl,rfl,_,rfl,iA (fun kW=>?_) (fun heq=>?_)⟩
  ·rcases jx (s:=s) an true _ with ⟨h0,_⟩ | ⟨h0,he⟩
   ·exact absurd (by rw [h0]) kW
   ·have q':=he▸q;exact ⟨_,rfl,by show 1≤sizeLine;decide,mZ tb g2 rfl rfl q'⟩
  ·rcases jx (s:=s) an true _ with ⟨h0,x,hx,GV,he⟩ | ⟨h0,he⟩
   ·have q':=he▸q;have wf:=tb.wf;have wx:=wf.col an x hx;have bk:Bk x.kind:=zQ wx.kind (GV rfl);refine gH T (tb.same lQ) ha hx rfl rfl ?_;refine ⟨_,rfl,_,rfl,by show 1≤sizeLine;decide,fun B hB=>?_⟩;refine mv (K:=K) (cs:=[an]) (xs:=[x]) (res:=fun bs=>.int (Rd18.near x.kind (Rd18.powerOf (Rd18.worth x.kind (bs.headD 0))))) [.int x.kind] tb g2 ND (List.mem_cons_of_mem _ (List.mem_cons_of_mem _ List.mem_cons_self)) hB (by simp) (by simpa using ha) rfl (by simp only [List.map_cons,List.map_nil,hx]) rfl
     (fun i bs H4 gg Q' hi hb hg hq=>?_) fun r H4 g4 wD=>?_
    ·obtain ⟨b,rfl,rE⟩:=t5 hb;exact ⟨_,_,gg,rfl,rfl,hg,x.kind,b,rfl,bk,hq⟩
    ·have vT:H4 r=some (.lst (cells (Rd18.each x.cells fun b=>some (Rd18.near x.kind (Rd18.powerOf (Rd18.worth x.kind b)))))):=by
      rw [← qQ wx.len]
      ·exact wD
      ·intro b;rfl
     refine ⟨_,rfl,_,rfl,by show 1≤sizeLine;decide,fun B2 Nq=>?_⟩;refine mv (K:=K) (cs:=[an]) (xs:=[x]) (res:=fun bs=>.int (Rd18.near x.kind (Rd18.partOf (Rd18.worth x.kind (bs.headD 0))))) [.int x.kind] (g4.tab tb) (Go.same g4.lam (aB.refl H4)) ND (List.mem_cons_of_mem _ (List.mem_cons_of_mem _ List.mem_cons_self)) Nq (by simp) (by simpa using ha) rfl (by simp only [List.map_cons,List.map_nil,hx]) rfl
      (fun i bs H4 gg Q' hi hb hg hq=>?_) fun r2 H5 g5 VQ=>?_
     ·obtain ⟨b,rfl,rE⟩:=t5 hb;exact ⟨_,_,gg,rfl,rfl,hg,x.kind,b,rfl,bk,hq⟩
     ·have RJ:H5 r2=some (.lst (cells (Rd18.each x.cells fun b=>some (Rd18.near x.kind (Rd18.partOf (Rd18.worth x.kind b)))))):=by
       rw [← qQ wx.len]
       ·exact VQ
       ·intro b;rfl
      have Tg:=g4.trans g5;refine gN ?_;dsimp only;refine sq (i5 T (k:=x.kind) (c:=pn) (Tg.tab tb) Tg.ky VP (g5.kp _ _ vT (.inl ⟨_,rfl⟩)) (AW wx (g:=fun b=>Rd18.near x.kind (Rd18.powerOf (Rd18.worth x.kind b))) fun b=>qR bk _) rfl rfl rfl (fun R hR=>⟨_,rfl,hR⟩) fun H6 Cn k6 JB=>?_);dsimp only;refine sq (i5 T (k:=x.kind) (c:=qm) Cn k6 Qa (JB _ _ RJ (.inl ⟨_,rfl⟩)) (AW wx (g:=fun b=>Rd18.near x.kind (Rd18.partOf (Rd18.worth x.kind b))) fun b=>qR bk _) rfl rfl rfl (fun R hR=>⟨_,rfl,hR⟩) fun H7 VR k7 X4=>⟨by show 1≤sizeLine;decide,?_⟩);exact m8 VR k7 q' rfl rfl
   ·exact absurd (V.int.inj heq) h0
noncomputable abbrev vY (Z:cg) (K:PySem.W.Frag):List V→Sp:=fun dH vs H Q _=>∃ (x0 b0 b1:V) (g:Addr),dH=[x0]∧vs=[.ref g]∧H g=some (.lst [b0,b1])∧(uU Z K) [x0,b0,b1] H Q E0
noncomputable abbrev o2 (Z:cg) (_:PySem.W.Frag):Sp:=fun vs H Q _=>∃ (t:Addr) (s:Rd18.Abs) (a b to:Int),vs=[.ref t,.int a,.int b,.int to]∧pd Z H t s∧i9 Z t (Rd18.does s (.join a b to)) H Q
theorem vZ (T:Ty K mg Z) (aQ:ae P w K mg base 2 "refusal_of_taken" ["table","taken","only_broken"] (bX Z K)) (aL:ae P w K mg base 1 "are_columns" ["numbers"] (bH Z K)) (yD:ae P w K mg base 4 "joined" ["kind","part","power"] (uU Z K)) (bz:lO P w K mg base 1 "Column" Z.CC ["kind","numbers"])  (M:qc P w K mg base Z) (ND:((tabs Z).map (·.1)).Nodup) (L:j7 mg base fd.code Z.IF) (D:aX K mg "join_columns" gu ["table","part","power","to"] f fd):ae P w K mg base 16 "join_columns" ["table","part","power","to"] (o2 Z K):=by
 refine ae.Lr D hJ (fun vs H Q E h=>?_) (fun bJ nW A outer s H vs Q E hr h=>?_)
 ·obtain ⟨t,s,a,b,to,rfl,_⟩:=h;rfl
 ·obtain ⟨t,s,a,b,to,rfl,ok,q⟩:=h;subst nW;obtain ⟨fm,Nr,E2,E3,rE,Fm⟩:=M.ex;refine ⟨_,(ai (aR (eU (aN (ah aL (hr.mono (by decide)) (aa (aP (aa (pv 1) (aa (pv 2) (aa (pv 3) ag)))) ag)))) (aj (ao (aP (aa (aM T.bb) ag)))) aw)
   (ai (aO (i:=4) hJ.nd rfl (by first | exact Or.inl rfl | exact Or.inr rfl) (ah aQ (hr.mono (by decide)) (aa (pv 0) (aa (aP (aa (pv 1) (aa (pv 2) ag))) (aa tm ag)))))
   (ai (aR (aG lY (pv 4) (aM T.dB) (aJ _)) (aj (ao (aP (aa (pv 4) ag)))) aw)
   (ai (aO (i:=5) hJ.nd rfl (by first | exact Or.inl rfl | exact Or.inr rfl) (aE (cu (cQ hr) (aE (pv 0) rfl) (pv 1) (fun _ _=>rfl)) rfl))
   (ai (aO (i:=6) hJ.nd rfl (by first | exact Or.inl rfl | exact Or.inr rfl) (jU (j:=12) (T:=Z.IF) (N:=["given","kind"]) (qs:=["given"]) (js:=[5]) (ls:=(vY Z K)) Fm (hr.mono (by decide)) (by rfl) E2 E3 rE nD (pv 0) (aP (aa (pv 1) (aa (pv 2) ag))) L rfl (y8 rfl rfl rfl (by decide +kernel) rfl (by decide +kernel) (by decide +kernel) (by decide +kernel)) (mV (by decide +kernel)) (by rfl) (by decide +kernel) (jK (sc:=ak gu) (by decide +kernel)) (fun dH vs H Q E h=>by obtain ⟨_,_,_,gg,_,rfl,_⟩:=h;rfl) (fun cl pm bJ ct us hl=>match us,hl with | [_],_=>rfl)
     (fun dH fl cl A outer cd s H vs Q E hN hr h=>by
      obtain ⟨x0,b0,b1,gg,rfl,rfl,hg,q⟩:=h;exact ⟨_,(ah yD (hr.mono (by decide)) (aa (pv 1) (aa (bu aU (pv 0) ar (fun _ _=>rfl)) (aa (bu aU (pv 0) ar (fun _ _=>rfl)) ag)))),_,rfl,_,rfl,gg,_,0,_,rfl,rfl,bU.of hg,aI (j:=0) rfl,_,rfl,gg,_,1,_,rfl,rfl,bU.of hg,aI (j:=1) rfl,q⟩)))
   (ai (iH (cQ hr) (aE (pv 0) rfl) (pv 3) (dQ bz (hr.mono (by decide)) (aa (pv 5) (aa (pv 6) ag))) rfl)
   (aj (ao (aP (aa (aM T.dB) ag)))))))))),?_⟩
  have dh:Rd18.does s (.join a b to)=Rd18.of2 s a b (Rd18.isCol a&&(Rd18.isCol b&&Rd18.isCol to)) (fun x y=>x.kind == y.kind&&Rd18.broken x.kind) fun x y=>(Rd18.set_ s to { x with cells:=Rd18.both x.cells y.cells (fun c1 c2=>Rd18.near x.kind (Rd18.joined (Rd18.worth x.kind c1) (Rd18.worth x.kind c2))) },Rd18.just 0):=rfl;rw [dh] at q;have bad:(Rd18.isCol a&&(Rd18.isCol b&&Rd18.isCol to))=false→∀ H1,aB H H1→∀ p,H1 p=none→Q (.ref p) (upd H1 p (.lst [.int (-2)])):=fun h H1 s1=>by
   rw [h] at q;exact bQ ok s1 rfl rfl q
  obtain ⟨d,tb⟩:=ok.tab;refine ⟨_,rfl,_,rfl,_,rfl,by show 3≤sizeLine;decide,oX (Z:=Z) (ns:=[a,b,to]) (by show 3≤100;decide) fun H1 s1=>?_⟩;have e1:([a,b,to].all fun c=>decide (0≤c∧c≤15))=(Rd18.isCol a&&(Rd18.isCol b&&Rd18.isCol to)):=by rw [bI,bI,bI];simp
  rw [e1];refine yz (fun h1=>⟨by show 1≤sizeLine;decide,bad h1 H1 s1⟩) (fun h1=>?_);rw [h1] at q;obtain ⟨DX,vS⟩:=Bool.and_eq_true_iff.mp h1;obtain ⟨vS,Jf⟩:=Bool.and_eq_true_iff.mp vS;obtain ⟨an,rfl,ha⟩:=dw DX;obtain ⟨bn,rfl,GQ⟩:=dw vS;obtain ⟨tn,rfl,Jd⟩:=dw Jf;refine ⟨_,rfl,_,rfl,_,rfl,by show 2≤sizeLine;decide,fun A hA=>?_⟩;have sA:aB H (upd H1 A (.lst [.int (an:Int),.int (bn:Int)])):=s1.trans (ax (aB.refl H1) hA);have sF:∀ c∈[an,bn],c < 16:=by intro c hc;rcases List.mem_cons.mp hc with rfl | hc;exact ha;rcases List.mem_cons.mp hc with rfl | hc;exact GQ;cases hc
  refine ⟨t,d,A,s,[an,bn],true,rfl,tb.same sA,bU.of au,by simp,by simp,sF,fun H2 s2=>?_⟩;have lQ:=sA.trans s2;have g2:=Go.same ok.lam lQ;have key:=sI (s:=s) an bn (true) (fun x y=>x.kind == y.kind&&Rd18.broken x.kind) (fun x y=>(Rd18.set_ s (tn:Int) { x with cells:=Rd18.both x.cells y.cells (fun c1 c2=>Rd18.near x.kind (Rd18.joined (Rd18.worth x.kind c1) (Rd18.worth x.kind c2))) },Rd18.just 0)) (fun x y=>by simp);refine ⟨_,rfl,rfl,_,rfl,iA (fun kW=>?_) (fun heq=>?_)⟩
  ·rcases key with ⟨h0,_⟩ | ⟨h0,he⟩
   ·exact absurd (by rw [h0]) kW
   ·have q':=he▸q;exact ⟨_,rfl,by show 1≤sizeLine;decide,mZ tb g2 rfl rfl q'⟩
  ·rcases key with ⟨h0,x,y,hx,hy,M2,GV,he⟩ | ⟨h0,he⟩
   ·have q':=he▸q;have wf:=tb.wf;have wx:=wf.col an x hx;have Co:=wf.col bn y hy;have bk:Bk x.kind:=zQ wx.kind (GV rfl);refine gH T (tb.same lQ) ha hx rfl rfl ?_;refine ⟨_,rfl,_,rfl,_,rfl,by show 2≤sizeLine;decide,fun B hB=>?_⟩;refine mv (K:=K) (cs:=[an,bn]) (xs:=[x,y]) (res:=fun bs=>.int (Rd18.near x.kind (Rd18.joined (Rd18.worth x.kind (bs.headD 0)) (Rd18.worth x.kind (bs.getD 1 0))))) [.int x.kind] tb g2 ND (List.mem_cons_of_mem _ (List.mem_cons_of_mem _ (List.mem_cons_of_mem _ (List.mem_cons_self)))) hB (by simp) sF rfl (by simp only [List.map_cons,List.map_nil,hx,hy]) rfl
     (fun i bs H4 gg Q' hi hb hg hq=>?_) fun r H4 g4 wD=>?_
    ·obtain ⟨c1,c2,rfl,M3,KP⟩:=yy hb;have v1:=wx.bits c1 M3;have v2:Vk x.kind c2:=by rw [← M2];exact Co.bits c2 KP
     exact ⟨_,_,_,gg,rfl,rfl,hg,x.kind,c1,c2,rfl,bk,v1.vb bk,hq⟩
    ·have vT:H4 r=some (.lst (cells (Rd18.both x.cells y.cells (fun c1 c2=>Rd18.near x.kind (Rd18.joined (Rd18.worth x.kind c1) (Rd18.worth x.kind c2)))))):=by
      rw [← zO wx.len Co.len]
      ·exact wD
      ·intro a b;rfl
     refine gN ?_;dsimp only;refine sq (i5 T (k:=x.kind) (c:=tn) (g4.tab tb) g4.ky Jd vT (E4 wx Co fun a b=>qR bk _) rfl rfl rfl (fun R hR=>⟨_,rfl,hR⟩) fun H6 Cn k6 JB=>⟨by show 1≤sizeLine;decide,?_⟩);exact m8 Cn k6 q' rfl rfl
   ·exact absurd (V.int.inj heq) h0
noncomputable abbrev zc (Z:cg) (K:PySem.W.Frag):List V→Sp:=fun dH vs H Q _=>∃ (x0 x1 b0 b1:V) (g:Addr),dH=[x0,x1]∧vs=[.ref g]∧H g=some (.lst [b0,b1])∧(AI Z K) [x0,x1,b0,b1] H Q E0
noncomputable abbrev rM (Z:cg) (_:PySem.W.Frag):Sp:=fun vs H Q _=>∃ (t:Addr) (s:Rd18.Abs) (o a b to:Int),vs=[.ref t,.int o,.int a,.int b,.int to]∧pd Z H t s∧i9 Z t (Rd18.does s (.op o a b to)) H Q
theorem zd (T:Ty K mg Z) (aQ:ae P w K mg base 2 "refusal_of_taken" ["table","taken","only_broken"] (bX Z K)) (lE:ae P w K mg base 1 "is_operation" ["op"] (oT Z K)) (aL:ae P w K mg base 1 "are_columns" ["numbers"] (bH Z K)) (DZ:ae P w K mg base 7 "done" ["kind","op","a","b"] (AI Z K)) (bz:lO P w K mg base 1 "Column" Z.CC ["kind","numbers"])  (M:qc P w K mg base Z) (ND:((tabs Z).map (·.1)).Nodup) (L:j7 mg base fd.code Z.Rh) (D:aX K mg "do_columns" iZ ["table","op","a","b","to"] f fd):ae P w K mg base 16 "do_columns" ["table","op","a","b","to"] (rM Z K):=by
 refine ae.Lr D jL (fun vs H Q E h=>?_) (fun bJ nW A outer s H vs Q E hr h=>?_)
 ·obtain ⟨t,s,o,a,b,to,rfl,_⟩:=h;rfl
 ·obtain ⟨t,s,o,a,b,to,rfl,ok,q⟩:=h;subst nW;obtain ⟨fm,Nr,E2,E3,rE,Fm⟩:=M.ex;refine ⟨_,(ai (aR (eU (PW.pt (fK (aN (ah lE (hr.mono (by decide)) (aa (pv 1) ag))) (gx (aN (ah aL (hr.mono (by decide)) (aa (aP (aa (pv 2) (aa (pv 3) (aa (pv 4) ag)))) ag))))))) (aj (ao (aP (aa (aM T.bb) ag)))) aw)
   (ai (aO (i:=5) jL.nd rfl (by first | exact Or.inl rfl | exact Or.inr rfl) (ah aQ (hr.mono (by decide)) (aa (pv 0) (aa (aP (aa (pv 2) (aa (pv 3) ag))) (aa (dM bD (pv 1) (aM T.jm) (aJ _)) ag)))))
   (ai (aR (aG lY (pv 5) (aM T.dB) (aJ _)) (aj (ao (aP (aa (pv 5) ag)))) aw)
   (ai (aO (i:=6) jL.nd rfl (by first | exact Or.inl rfl | exact Or.inr rfl) (aE (cu (cQ hr) (aE (pv 0) rfl) (pv 2) (fun _ _=>rfl)) rfl))
   (ai (aO (i:=7) jL.nd rfl (by first | exact Or.inl rfl | exact Or.inr rfl) (jU (j:=12) (T:=Z.Rh) (N:=["given","kind","op"]) (qs:=["given"]) (js:=[6,1]) (ls:=(zc Z K)) Fm (hr.mono (by decide)) (by rfl) E2 E3 rE nD (pv 0) (aP (aa (pv 2) (aa (pv 3) ag))) L rfl (y8 rfl rfl rfl (by decide +kernel) rfl (by decide +kernel) (by decide +kernel) (by decide +kernel)) (mV (by decide +kernel)) (by rfl) (by decide +kernel) (jK (sc:=ak iZ) (by decide +kernel)) (fun dH vs H Q E h=>by obtain ⟨_,_,_,_,gg,_,rfl,_⟩:=h;rfl) (fun cl pm bJ ct us hl=>match us,hl with | [_],_=>rfl)
     (fun dH fl cl A outer cd s H vs Q E hN hr h=>by
      obtain ⟨x0,x1,b0,b1,gg,rfl,rfl,hg,q⟩:=h;exact ⟨_,(ah DZ (hr.mono (by decide)) (aa (pv 1) (aa (pv 2) (aa (bu aU (pv 0) ar (fun _ _=>rfl)) (aa (bu aU (pv 0) ar (fun _ _=>rfl)) ag))))),_,rfl,_,rfl,_,rfl,gg,_,0,_,rfl,rfl,bU.of hg,aI (j:=0) rfl,_,rfl,gg,_,1,_,rfl,rfl,bU.of hg,aI (j:=1) rfl,q⟩)))
   (ai (iH (cQ hr) (aE (pv 0) rfl) (pv 4) (dQ bz (hr.mono (by decide)) (aa (pv 6) (aa (pv 7) ag))) rfl)
   (aj (ao (aP (aa (aM T.dB) ag)))))))))),?_⟩
  have dh:Rd18.does s (.op o a b to)=Rd18.of2 s a b (decide (0≤o)&&(decide (o≤5)&&(Rd18.isCol a&&(Rd18.isCol b&&Rd18.isCol to)))) (fun x y=>x.kind == y.kind&&(o != 5 || Rd18.broken x.kind)) fun x y=>(Rd18.set_ s to { x with cells:=Rd18.both x.cells y.cells (Rd18.op x.kind o.toNat) },Rd18.just 0):=rfl;rw [dh] at q;have bad:(decide (0≤o)&&(decide (o≤5)&&(Rd18.isCol a&&(Rd18.isCol b&&Rd18.isCol to))))=false→∀ H1,aB H H1→∀ p,H1 p=none→Q (.ref p) (upd H1 p (.lst [.int (-2)])):=fun h H1 s1=>by
   rw [h] at q;exact bQ ok s1 rfl rfl q
  obtain ⟨d,tb⟩:=ok.tab;refine ⟨_,rfl,o,rfl,_,rfl,kJ (fun h0=>?_) (fun h0=>eO ⟨by show 1≤sizeLine;decide,bad (by rw [← Bool.and_assoc,← Bool.decide_and,h0];rfl) H (aB.refl H)⟩)⟩;refine ⟨_,rfl,_,rfl,_,rfl,by show 3≤sizeLine;decide,oX (Z:=Z) (ns:=[a,b,to]) (by show 3≤100;decide) fun H1 s1=>?_⟩;have ho:=of_decide_eq_true h0;have e1:([a,b,to].all fun c=>decide (0≤c∧c≤15))=(Rd18.isCol a&&(Rd18.isCol b&&Rd18.isCol to)):=by rw [bI,bI,bI];simp
  rw [e1];refine yz (fun h1=>⟨by show 1≤sizeLine;decide,bad (by rw [← Bool.and_assoc,← Bool.decide_and,h0,h1];rfl) H1 s1⟩) (fun h1=>?_);rw [← Bool.and_assoc,← Bool.decide_and,h0,h1] at q;obtain ⟨DX,vS⟩:=Bool.and_eq_true_iff.mp h1;obtain ⟨vS,Jf⟩:=Bool.and_eq_true_iff.mp vS;obtain ⟨an,rfl,ha⟩:=dw DX;obtain ⟨bn,rfl,GQ⟩:=dw vS;obtain ⟨tn,rfl,Jd⟩:=dw Jf;refine ⟨_,rfl,_,rfl,_,rfl,by show 2≤sizeLine;decide,fun A hA=>?_⟩;have sA:aB H (upd H1 A (.lst [.int (an:Int),.int (bn:Int)])):=s1.trans (ax (aB.refl H1) hA);have sF:∀ c∈[an,bn],c < 16:=by intro c hc;rcases List.mem_cons.mp hc with rfl | hc;exact ha;rcases List.mem_cons.mp hc with rfl | hc;exact GQ;cases hc
  refine ⟨_,rfl,rfl,?_⟩;refine ⟨t,d,A,s,[an,bn],decide (V.int o=V.int 5),rfl,tb.same sA,bU.of au,by simp,by simp,sF,fun H2 s2=>?_⟩;have lQ:=sA.trans s2;have g2:=Go.same ok.lam lQ;have key:=sI (s:=s) an bn (decide (V.int o=V.int 5)) (fun x y=>x.kind == y.kind&&(o != 5 || Rd18.broken x.kind)) (fun x y=>(Rd18.set_ s (tn:Int) { x with cells:=Rd18.both x.cells y.cells (Rd18.op x.kind o.toNat) },Rd18.just 0)) (fun x y=>by by_cases e:o=5 <;> simp [e]);refine ⟨_,rfl,rfl,_,rfl,iA (fun kW=>?_) (fun heq=>?_)⟩
  ·rcases key with ⟨h0,_⟩ | ⟨h0,he⟩
   ·exact absurd (by rw [h0]) kW
   ·have q':=he▸q;exact ⟨_,rfl,by show 1≤sizeLine;decide,mZ tb g2 rfl rfl q'⟩
  ·rcases key with ⟨h0,x,y,hx,hy,M2,GV,he⟩ | ⟨h0,he⟩
   ·have q':=he▸q;have wf:=tb.wf;have wx:=wf.col an x hx;have Co:=wf.col bn y hy;refine gH T (tb.same lQ) ha hx rfl rfl ?_;refine ⟨_,rfl,_,rfl,_,rfl,by show 2≤sizeLine;decide,fun B hB=>?_⟩;refine mv (K:=K) (cs:=[an,bn]) (xs:=[x,y]) (res:=fun bs=>.int (Rd18.op x.kind o.toNat (bs.headD 0) (bs.getD 1 0))) [.int x.kind,.int o] tb g2 ND (List.mem_cons_of_mem _ (List.mem_cons_of_mem _ (List.mem_cons_of_mem _ (List.mem_cons_of_mem _ (List.mem_cons_self))))) hB (by simp) sF rfl (by simp only [List.map_cons,List.map_nil,hx,hy]) rfl
     (fun i bs H4 gg Q' hi hb hg hq=>?_) fun r H4 g4 wD=>?_
    ·obtain ⟨c1,c2,rfl,M3,KP⟩:=yy hb;have v1:=wx.bits c1 M3;have v2:Vk x.kind c2:=by rw [← M2];exact Co.bits c2 KP
     exact ⟨_,_,_,_,gg,rfl,rfl,hg,x.kind,o.toNat,c1,c2,by rw [Int.toNat_of_nonneg ho.1],wx.kind,by omega,fun e=>zQ wx.kind (GV (decide_eq_true (by congr 1;omega))),v1,v2,hq⟩
    ·have vT:H4 r=some (.lst (cells (Rd18.both x.cells y.cells (Rd18.op x.kind o.toNat)))):=by
      rw [← zO wx.len Co.len]
      ·exact wD
      ·intro a b;rfl
     refine gN ?_;dsimp only;refine sq (i5 T (k:=x.kind) (c:=tn) (g4.tab tb) g4.ky Jd vT (E4 wx Co fun a b=>OI wx.kind (by omega) (fun e=>zQ wx.kind (GV (decide_eq_true (by congr 1;omega)))) a b) rfl rfl rfl (fun R hR=>⟨_,rfl,hR⟩) fun H6 Cn k6 JB=>⟨by show 1≤sizeLine;decide,?_⟩);exact m8 Cn k6 q' rfl rfl
   ·exact absurd (V.int.inj heq) h0
theorem Cp (a b c:Nat) (f:Rd18.Column→Rd18.Column→Rd18.Column→Rd18.Abs×Rd18.Ans) (y:Rd18.Abs×Rd18.Ans)
  (hy:y=match s.cols.getD a none,s.cols.getD b none,s.cols.getD c none with
   | some x,some y,some z=>if (Rd18.broken x.kind&&(x.kind == y.kind&&x.kind == z.kind))=true then f x y z else (s,Rd18.just (-4))
   | _,_,_=>(s,Rd18.just (-3))) :
  (cC s [a,b,c] true=0∧∃ x y' z,s.cols.getD a none=some x∧s.cols.getD b none=some y'∧s.cols.getD c none=some z∧y'.kind=x.kind∧z.kind=x.kind∧Rd18.broken x.kind=true∧y=f x y' z)∨(cC s [a,b,c] true≠0∧y=(s,Rd18.just (cC s [a,b,c] true))):=by
 have Jg:(([a,b,c].all (cB s))=false)→cC s [a,b,c] true=-3:=fun h=>by unfold cC;rw [if_neg (by rw [h];decide)]
 cases hx:s.cols.getD a none with
 | none =>
  have h0:cB s a=false:=by unfold cB;rw [hx];rfl
  have hr:=Jg (by simp [h0]);rw [hx] at hy;exact .inr ⟨by rw [hr];decide,by rw [hr,hy]⟩
 | some x =>
  cases Nt:s.cols.getD b none with
  | none =>
   have h0:cB s b=false:=by unfold cB;rw [Nt];rfl
   have hr:=Jg (by simp [h0]);rw [hx,Nt] at hy;exact .inr ⟨by rw [hr];decide,by rw [hr,hy]⟩
  | some y' =>
   cases hz:s.cols.getD c none with
   | none =>
    have h0:cB s c=false:=by unfold cB;rw [hz];rfl
    have hr:=Jg (by simp [h0]);rw [hx,Nt,hz] at hy;exact .inr ⟨by rw [hr];decide,by rw [hr,hy]⟩
   | some z =>
    rw [hx,Nt,hz] at hy;have hy:y=if (Rd18.broken x.kind&&(x.kind == y'.kind&&x.kind == z.kind))=true then f x y' z else (s,Rd18.just (-4)):=hy
    have h0:cB s a=true:=by unfold cB;rw [hx];rfl
    have OZ:cB s b=true:=by unfold cB;rw [Nt];rfl
    have RK:cB s c=true:=by unfold cB;rw [hz];rfl
    have hh:([a,b,c].all (cB s))=true:=by simp [h0,OZ,RK]
    have EU:kindAt s a=x.kind:=by unfold kindAt;rw [hx];rfl
    have MX:kindAt s b=y'.kind:=by unfold kindAt;rw [Nt];rfl
    have VS:kindAt s c=z.kind:=by unfold kindAt;rw [hz];rfl
    have OG:[a,b,c].headD 0=a:=rfl;have hr:cC s [a,b,c] true=if true=true∧Rd18.broken x.kind=false then -4 else if ([a,b,c].all fun c'=>decide (kindAt s c'=x.kind))=true then 0 else -4:=by unfold cC;rw [if_pos hh,OG,EU]
    have PF:([a,b,c].all fun c'=>decide (kindAt s c'=x.kind))=(decide (y'.kind=x.kind)&&decide (z.kind=x.kind)):=by simp [EU,MX,VS]
    rw [PF] at hr;cases hb:Rd18.broken x.kind with
    | false =>
     rw [if_pos ⟨rfl,hb⟩] at hr;rw [hb,if_neg (by simp)] at hy;exact .inr ⟨by rw [hr];decide,by rw [hr,hy]⟩
    | true =>
     rw [if_neg (fun h=>by rw [hb] at h;cases h.2)] at hr;by_cases hk:y'.kind=x.kind∧z.kind=x.kind
     ·rw [if_pos (by rw [decide_eq_true hk.1,decide_eq_true hk.2];rfl)] at hr;rw [hb,if_pos (by simp [hk.1,hk.2])] at hy;exact .inl ⟨hr,x,y',z,rfl,rfl,rfl,hk.1,hk.2,hb,hy⟩
     ·rw [if_neg (by rw [Bool.and_eq_true,decide_eq_true_eq,decide_eq_true_eq];exact hk)] at hr;rw [if_neg (by
       rw [hb,Bool.true_and,Bool.and_eq_true,beq_iff_eq,beq_iff_eq];exact fun h=>hk ⟨h.1.symm,h.2.symm⟩)] at hy
      exact .inr ⟨by rw [hr];decide,by rw [hr,hy]⟩
noncomputable abbrev v9 (Z:cg) (K:PySem.W.Frag):List V→Sp:=fun dH vs H Q _=>∃ (x0 b0 b1 b2:V) (g:Addr),dH=[x0]∧vs=[.ref g]∧H g=some (.lst [b0,b1,b2])∧(eK Z K) [x0,b0,b1,b2] H Q E0
noncomputable abbrev o4 (Z:cg) (_:PySem.W.Frag):Sp:=fun vs H Q _=>∃ (t:Addr) (s:Rd18.Abs) (a b c to:Int),vs=[.ref t,.int a,.int b,.int c,.int to]∧pd Z H t s∧i9 Z t (Rd18.does s (.more a b c to)) H Q
noncomputable def E5 (k:Nat) (a b c:Nat):Nat:=Rd18.near k (Rd18.plus (Rd18.times (Rd18.worth k a) (Rd18.worth k b)) (Rd18.worth k c))
theorem wa (T:Ty K mg Z) (aQ:ae P w K mg base 2 "refusal_of_taken" ["table","taken","only_broken"] (bX Z K)) (aL:ae P w K mg base 1 "are_columns" ["numbers"] (bH Z K)) (fh:ae P w K mg base 5 "multiplied_and_added" ["kind","a","b","c"] (eK Z K)) (bz:lO P w K mg base 1 "Column" Z.CC ["kind","numbers"])  (M:qc P w K mg base Z) (ND:((tabs Z).map (·.1)).Nodup) (L:j7 mg base fd.code Z.IG) (D:aX K mg "more_columns" gv ["table","a","b","c","to"] f fd):ae P w K mg base 16 "more_columns" ["table","a","b","c","to"] (o4 Z K):=by
 refine ae.Lr D hO (fun vs H Q E h=>?_) (fun bJ nW A outer s H vs Q E hr h=>?_)
 ·obtain ⟨t,s,a,b,c,to,rfl,_⟩:=h;rfl
 ·obtain ⟨t,s,a,b,c,to,rfl,ok,q⟩:=h;subst nW;obtain ⟨fm,Nr,E2,E3,rE,Fm⟩:=M.ex;refine ⟨_,(ai (aR (eU (aN (ah aL (hr.mono (by decide)) (aa (aP (aa (pv 1) (aa (pv 2) (aa (pv 3) (aa (pv 4) ag))))) ag)))) (aj (ao (aP (aa (aM T.bb) ag)))) aw)
   (ai (aO (i:=5) hO.nd rfl (by first | exact Or.inl rfl | exact Or.inr rfl) (ah aQ (hr.mono (by decide)) (aa (pv 0) (aa (aP (aa (pv 1) (aa (pv 2) (aa (pv 3) ag)))) (aa tm ag)))))
   (ai (aR (aG lY (pv 5) (aM T.dB) (aJ _)) (aj (ao (aP (aa (pv 5) ag)))) aw)
   (ai (aO (i:=6) hO.nd rfl (by first | exact Or.inl rfl | exact Or.inr rfl) (aE (cu (cQ hr) (aE (pv 0) rfl) (pv 1) (fun _ _=>rfl)) rfl))
   (ai (aO (i:=7) hO.nd rfl (by first | exact Or.inl rfl | exact Or.inr rfl) (jU (j:=12) (T:=Z.IG) (N:=["given","kind"]) (qs:=["given"]) (js:=[6]) (ls:=(v9 Z K)) Fm (hr.mono (by decide)) (by rfl) E2 E3 rE nD (pv 0) (aP (aa (pv 1) (aa (pv 2) (aa (pv 3) ag)))) L rfl (y8 rfl rfl rfl (by decide +kernel) rfl (by decide +kernel) (by decide +kernel) (by decide +kernel)) (mV (by decide +kernel)) (by rfl) (by decide +kernel) (jK (sc:=ak gv) (by decide +kernel)) (fun dH vs H Q E h=>by obtain ⟨_,_,_,_,gg,_,rfl,_⟩:=h;rfl) (fun cl pm bJ ct us hl=>match us,hl with | [_],_=>rfl)
     (fun dH fl cl A outer cd s H vs Q E hN hr h=>by
      obtain ⟨x0,b0,b1,b2,gg,rfl,rfl,hg,q⟩:=h;exact ⟨_,(ah fh (hr.mono (by decide)) (aa (pv 1) (aa (bu aU (pv 0) ar (fun _ _=>rfl)) (aa (bu aU (pv 0) ar (fun _ _=>rfl)) (aa (bu aU (pv 0) ar (fun _ _=>rfl)) ag))))),_,rfl,_,rfl,gg,_,0,_,rfl,rfl,bU.of hg,aI (j:=0) rfl,_,rfl,gg,_,1,_,rfl,rfl,bU.of hg,aI (j:=1) rfl,_,rfl,gg,_,2,_,rfl,rfl,bU.of hg,aI (j:=2) rfl,q⟩)))
   (ai (iH (cQ hr) (aE (pv 0) rfl) (pv 4) (dQ bz (hr.mono (by decide)) (aa (pv 6) (aa (pv 7) ag))) rfl)
   (aj (ao (aP (aa (aM T.dB) ag)))))))))),?_⟩
  have dh:Rd18.does s (.more a b c to)=if (Rd18.isCol a&&(Rd18.isCol b&&(Rd18.isCol c&&Rd18.isCol to)))=false then (s,Rd18.just (-2)) else match Rd18.col s a,Rd18.col s b,Rd18.col s c with
   | some x,some y,some z=>if (Rd18.broken x.kind&&(x.kind == y.kind&&x.kind == z.kind))=true then (Rd18.set_ s to { x with cells:=Rd18.three x.cells y.cells z.cells (E5 x.kind) },Rd18.just 0) else (s,Rd18.just (-4))
   | _,_,_=>(s,Rd18.just (-3)):=rfl
  rw [dh] at q;have bad:(Rd18.isCol a&&(Rd18.isCol b&&(Rd18.isCol c&&Rd18.isCol to)))=false→∀ H1,aB H H1→∀ p,H1 p=none→Q (.ref p) (upd H1 p (.lst [.int (-2)])):=fun h H1 s1=>by
   rw [if_pos h] at q;exact bQ ok s1 rfl rfl q
  obtain ⟨d,tb⟩:=ok.tab;refine ⟨_,rfl,_,rfl,_,rfl,_,rfl,by show 4≤sizeLine;decide,oX (Z:=Z) (ns:=[a,b,c,to]) (by show 4≤100;decide) fun H1 s1=>?_⟩;have e1:([a,b,c,to].all fun c=>decide (0≤c∧c≤15))=(Rd18.isCol a&&(Rd18.isCol b&&(Rd18.isCol c&&Rd18.isCol to))):=by rw [bI,bI,bI,bI];simp
  rw [e1];refine yz (fun h1=>⟨by show 1≤sizeLine;decide,bad h1 H1 s1⟩) (fun h1=>?_);rw [if_neg (by rw [h1];decide)] at q;obtain ⟨DX,vS⟩:=Bool.and_eq_true_iff.mp h1;obtain ⟨vS,Jf⟩:=Bool.and_eq_true_iff.mp vS;obtain ⟨Jf,VT⟩:=Bool.and_eq_true_iff.mp Jf;obtain ⟨an,rfl,ha⟩:=dw DX;obtain ⟨bn,rfl,GQ⟩:=dw vS;obtain ⟨cn,rfl,Li⟩:=dw Jf;obtain ⟨tn,rfl,Jd⟩:=dw VT;rw [jM,jM,jM] at q;refine ⟨_,rfl,_,rfl,_,rfl,_,rfl,by show 3≤sizeLine;decide,fun A hA=>?_⟩;have sA:aB H (upd H1 A (.lst [.int (an:Int),.int (bn:Int),.int (cn:Int)])):=s1.trans (ax (aB.refl H1) hA);have sF:∀ c∈[an,bn,cn],c < 16:=by
   intro c hc;rcases List.mem_cons.mp hc with rfl | hc
   ·exact ha
   rcases List.mem_cons.mp hc with rfl | hc
   ·exact GQ
   rcases List.mem_cons.mp hc with rfl | hc
   ·exact Li
   cases hc
  refine ⟨t,d,A,s,[an,bn,cn],true,rfl,tb.same sA,bU.of au,by simp,by simp,sF,fun H2 s2=>?_⟩;have lQ:=sA.trans s2;have g2:=Go.same ok.lam lQ;have key:=Cp (s:=s) an bn cn (fun x y z=>(Rd18.set_ s (tn:Int) { x with cells:=Rd18.three x.cells y.cells z.cells (E5 x.kind) },Rd18.just 0)) _ rfl;refine ⟨_,rfl,rfl,_,rfl,iA (fun kW=>?_) (fun heq=>?_)⟩
  ·rcases key with ⟨h0,_⟩ | ⟨h0,he⟩
   ·exact absurd (by rw [h0]) kW
   ·rw [he] at q;exact ⟨_,rfl,by show 1≤sizeLine;decide,mZ tb g2 rfl rfl q⟩
  ·rcases key with ⟨h0,x,y,z,hx,hy,hz,M2,VU,GV,he⟩ | ⟨h0,he⟩
   ·rw [he] at q;have wf:=tb.wf;have wx:=wf.col an x hx;have Co:=wf.col bn y hy;have RL:=wf.col cn z hz;have bk:Bk x.kind:=zQ wx.kind GV;refine gH T (tb.same lQ) ha hx rfl rfl ?_;refine ⟨_,rfl,_,rfl,_,rfl,_,rfl,by show 3≤sizeLine;decide,fun B hB=>?_⟩;refine mv (K:=K) (cs:=[an,bn,cn]) (xs:=[x,y,z]) (res:=fun bs=>.int (E5 x.kind (bs.headD 0) (bs.getD 1 0) (bs.getD 2 0))) [.int x.kind] tb g2 ND (List.mem_cons_of_mem _ (List.mem_cons_of_mem _ (List.mem_cons_of_mem _ (List.mem_cons_of_mem _ (List.mem_cons_of_mem _ List.mem_cons_self))))) hB (by simp) sF rfl (by simp only [List.map_cons,List.map_nil,hx,hy,hz]) rfl
     (fun i bs H4 gg Q' hi hb hg hq=>?_) fun r H4 g4 wD=>?_
    ·obtain ⟨c1,c2,c3,rfl,M3,KP,Oy⟩:=DW hb;have v1:=wx.bits c1 M3;have v2:Vk x.kind c2:=by rw [← M2];exact Co.bits c2 KP
     have v3:Vk x.kind c3:=by rw [← VU];exact RL.bits c3 Oy
     exact ⟨_,_,_,_,gg,rfl,rfl,hg,x.kind,c1,c2,c3,rfl,bk,v1.vb bk,v2.vb bk,v3.vb bk,hq⟩
    ·have vT:H4 r=some (.lst (cells (Rd18.three x.cells y.cells z.cells (E5 x.kind)))):=by
      rw [← DV wx.len Co.len RL.len]
      ·exact wD
      ·intro a b c;rfl
     refine gN ?_;dsimp only;refine sq (i5 T (k:=x.kind) (c:=tn) (g4.tab tb) g4.ky Jd vT (Je wx Co RL fun a b c=>qR bk _) rfl rfl rfl (fun R hR=>⟨_,rfl,hR⟩) fun H6 Cn k6 JB=>⟨by show 1≤sizeLine;decide,?_⟩);exact m8 Cn k6 q rfl rfl
   ·exact absurd (V.int.inj heq) h0
end
end NK
set_option exponentiation.threshold 2000
namespace NK
open PySem L2
section
variable {P:Program} {w:World} {K:PySem.W.Frag} {mg:Str→Option Value} {base:Heap} {f:Addr} {fd:FuncData} {Z:cg} {H H1 H2:Hp} {Q:VK} {E:XK} {CF t d:Addr} {s:Rd18.Abs}
noncomputable def sJ (o:Nat) (x y:Rd18.Column) (i:Nat):Bool:=match x.cells.getD i none,y.cells.getD i none with
 | some a,some b=>Rd18.holds o (Rd18.worth x.kind a) (Rd18.worth y.kind b)
 | _,_=>false
theorem Jh (o:Nat) (x y:Rd18.Column) (i:Nat):decide (iz [x.cells,y.cells] (fun bs=>.bl (Rd18.holds o (Rd18.worth x.kind (bs.headD 0)) (Rd18.worth y.kind (bs.getD 1 0)))) i=V.bl true)=sJ o x y i:=by
 unfold iz bx bx bx sJ;cases x.cells.getD i none with
 | none=>rfl
 | some a =>
  cases y.cells.getD i none with
  | none=>rfl
  | some b =>
   show decide (V.bl (Rd18.holds o (Rd18.worth x.kind a) (Rd18.worth y.kind b))=V.bl true)=Rd18.holds o (Rd18.worth x.kind a) (Rd18.worth y.kind b);cases Rd18.holds o (Rd18.worth x.kind a) (Rd18.worth y.kind b) <;> rfl
theorem KU (o:Nat) (x y:Rd18.Column) (i:Nat):iz [x.cells,y.cells] (fun bs=>.bl (Rd18.holds o (Rd18.worth x.kind (bs.headD 0)) (Rd18.worth y.kind (bs.getD 1 0)))) i=.dR∨∃ b,iz [x.cells,y.cells] (fun bs=>.bl (Rd18.holds o (Rd18.worth x.kind (bs.headD 0)) (Rd18.worth y.kind (bs.getD 1 0)))) i=.bl b:=by
 unfold iz;cases bx [x.cells,y.cells] i with
 | none=>exact .inl rfl
 | some bs=>exact .inr ⟨_,rfl⟩
theorem Ji {α:Type} (g:α→V) (p:V→V):∀ l:List α,(l.map g).filterMap (fun v=>some (p v))=l.map fun a=>p (g a)
 | []=>rfl
 | a::r=>by
  have ih:=Ji g p r;show p (g a)::(r.map g).filterMap _=_;rw [ih];rfl
theorem D0 (n:Nat) (g:Nat→Bool):Rd18.maskOf ((List.range n).map g).length (fun i=>((List.range n).map g).getD i false)=Rd18.maskOf n g:=by
 rw [List.length_map,List.length_range,← eP,← eP];refine sX fun i hi=>?_;simp [List.getD,hi]
noncomputable abbrev sM (Z:cg) (K:PySem.W.Frag):List V→Sp:=fun dH vs H Q _=>∃ (x0 x1 x2 b0 b1:V) (g:Addr),dH=[x0,x1,x2]∧vs=[.ref g]∧H g=some (.lst [b0,b1])∧(yl Z K) [x0,x1,b0,x2,b1] H Q E0
noncomputable abbrev lF (Z:cg) (_:PySem.W.Frag):Sp:=fun vs H Q _=>∃ (t:Addr) (s:Rd18.Abs) (o a b n:Int),vs=[.ref t,.int o,.int a,.int b,.int n]∧pd Z H t s∧i9 Z t (Rd18.does s (.compare o a b n)) H Q
theorem sN (T:Ty K mg Z) (cU:ae P w K mg base 1 "are_there" ["table","taken"] (i4 Z K)) (kO:ae P w K mg base 1 "mask_of" ["holds"] (sE Z K)) (ko:ae P w K mg base 1 "is_comparison" ["op"] (nP Z K)) (aL:ae P w K mg base 1 "are_columns" ["numbers"] (bH Z K)) (AX:ae P w K mg base 6 "holds" ["op","kind_a","a","kind_b","b"] (yl Z K))  (M:qc P w K mg base Z) (ND:((tabs Z).map (·.1)).Nodup) (L:j7 mg base fd.code Z.MO) (D:aX K mg "compare_columns" dq ["table","op","a","b","n"] f fd):ae P w K mg base 16 "compare_columns" ["table","op","a","b","n"] (lF Z K):=by
 refine ae.Lr D da (fun vs H Q E h=>?_) (fun bJ nW A outer s H vs Q E hr h=>?_)
 ·obtain ⟨t,s,o,a,b,n,rfl,_⟩:=h;rfl
 ·obtain ⟨t,s,o,a,b,n,rfl,ok,q⟩:=h;subst nW;obtain ⟨fm,Nr,E2,E3,rE,Fm⟩:=M.ex;refine ⟨_,(ai (aR (eU (PW.pt (fK (aN (ah ko (hr.mono (by decide)) (aa (pv 1) ag))) (fK (aN (ah aL (hr.mono (by decide)) (aa (aP (aa (pv 2) (aa (pv 3) ag))) ag))) (gx (aG bD (pv 4) (aE (pv 0) rfl) (aJ _))))))) (aj (ao (aP (aa (aM T.bb) ag)))) aw)
   (ai (aR (eU (aN (ah cU (hr.mono (by decide)) (aa (pv 0) (aa (aP (aa (pv 2) (aa (pv 3) ag))) ag))))) (aj (ao (aP (aa (aM T.eQ) ag)))) aw)
   (ai (aO (i:=5) da.nd rfl (by first | exact Or.inl rfl | exact Or.inr rfl) (aE (cu (cQ hr) (aE (pv 0) rfl) (pv 2) (fun _ _=>rfl)) rfl))
   (ai (aO (i:=6) da.nd rfl (by first | exact Or.inl rfl | exact Or.inr rfl) (aE (cu (cQ hr) (aE (pv 0) rfl) (pv 3) (fun _ _=>rfl)) rfl))
   (ai (aO (i:=7) da.nd rfl (by first | exact Or.inl rfl | exact Or.inr rfl) (jU (j:=12) (T:=Z.MO) (N:=["given","op","kind_a","kind_b"]) (qs:=["given"]) (js:=[1,5,6]) (ls:=(sM Z K)) Fm (hr.mono (by decide)) (by rfl) E2 E3 rE nD (pv 0) (aP (aa (pv 2) (aa (pv 3) ag))) L rfl (y8 rfl rfl rfl (by decide +kernel) rfl (by decide +kernel) (by decide +kernel) (by decide +kernel)) (mV (by decide +kernel)) (by rfl) (by decide +kernel) (jK (sc:=ak dq) (by decide +kernel)) (fun dH vs H Q E h=>by obtain ⟨_,_,_,_,_,gg,_,rfl,_⟩:=h;rfl) (fun cl pm bJ ct us hl=>match us,hl with | [_],_=>rfl)
     (fun dH fl cl A outer cd s H vs Q E hN hr h=>by
      obtain ⟨x0,x1,x2,b0,b1,gg,rfl,rfl,hg,q⟩:=h;exact ⟨_,(ah AX (hr.mono (by decide)) (aa (pv 1) (aa (pv 2) (aa (bu aU (pv 0) ar (fun _ _=>rfl)) (aa (pv 3) (aa (bu aU (pv 0) ar (fun _ _=>rfl)) ag)))))),_,rfl,_,rfl,_,rfl,gg,_,0,_,rfl,rfl,bU.of hg,aI (j:=0) rfl,_,rfl,_,rfl,gg,_,1,_,rfl,rfl,bU.of hg,aI (j:=1) rfl,q⟩)))
   (ai (jT (i:=8) (own:=[("each",9)]) rfl da.nd rfl rfl (l8 rfl rfl (by rfl) (by rfl)) (dA (pv 7)) (cq (N:=["table","op","a","b","n","kind_a","kind_b","found","held","each"]) (sc:=ak dq) (by decide +kernel)) (fun _ _ _ _ _=>(bZ (i:=9) da.nd rfl (by first | exact Or.inl rfl | exact Or.inr rfl))) (by intro _ _ _ _ _;exact eA) (by intro _ _ _ _ _;exact (dM MM (pv 9) tm (aJ _))))
   (aj (ao (aT r8 (aP (aa (xi PySem.F.plainAttrs_list PySem.F.slot_list_count PySem.F.type_list_count F9 (pv 8) (aa tm ag)) ag)) (ah kO (hr.mono (by decide)) (aa (pv 8) ag))))))))))),?_⟩
  have dh:Rd18.does s (.compare o a b n)=Rd18.of2 s a b (decide (0≤o)&&(decide (o≤3)&&(Rd18.isCol a&&(Rd18.isCol b&&decide (n=(s.rows:Int)))))) (fun _ _=>true) fun x y=>(s,{ value:=(((List.range s.rows).filter (sJ o.toNat x y)).length:Nat),out:=Rd18.maskOf s.rows (sJ o.toNat x y) }):=rfl;rw [dh] at q;have bad:(decide (0≤o)&&(decide (o≤3)&&(Rd18.isCol a&&(Rd18.isCol b&&decide (n=(s.rows:Int))))))=false→∀ H1,aB H H1→∀ p,H1 p=none→Q (.ref p) (upd H1 p (.lst [.int (-2)])):=fun h H1 s1=>by
   rw [h] at q;exact bQ ok s1 rfl rfl q
  obtain ⟨d,tb⟩:=ok.tab;refine ⟨_,rfl,o,rfl,_,rfl,kJ (fun h0=>?_) (fun h0=>eO ⟨by show 1≤sizeLine;decide,bad (by rw [← Bool.and_assoc,← Bool.decide_and,h0];rfl) H (aB.refl H)⟩)⟩;have ho:=of_decide_eq_true h0;refine ⟨_,rfl,_,rfl,by show 2≤sizeLine;decide,oX (Z:=Z) (ns:=[a,b]) (by show 2≤100;decide) fun H1 s1=>?_⟩;have e1:([a,b].all fun c=>decide (0≤c∧c≤15))=(Rd18.isCol a&&Rd18.isCol b):=by rw [bI,bI];simp
  rw [e1];refine kJ (fun h1=>?_) (fun h1=>eO ⟨by show 1≤sizeLine;decide,bad (by rw [← Bool.and_assoc,← Bool.decide_and,h0,← Bool.and_assoc (Rd18.isCol a),h1];rfl) H1 s1⟩);refine ⟨_,rfl,jN T (tb.same s1) rfl ⟨rfl,_,rfl,iA (fun h3=>⟨by show 1≤sizeLine;decide,bad (by rw [← Bool.and_assoc,← Bool.decide_and,h0,← Bool.and_assoc (Rd18.isCol a),h1,decide_eq_false (fun e=>h3 (by rw [e]))];rfl) H1 s1⟩) (fun h3=>?_)⟩⟩;have EY:n=(s.rows:Int):=V.int.inj h3;rw [← Bool.and_assoc,← Bool.decide_and,h0,← Bool.and_assoc (Rd18.isCol a),h1,decide_eq_true EY] at q;obtain ⟨DX,vS⟩:=Bool.and_eq_true_iff.mp h1;obtain ⟨an,rfl,ha⟩:=dw DX;obtain ⟨bn,rfl,GQ⟩:=dw vS;have sF:∀ c∈[an,bn],c < 16:=by intro c hc;rcases List.mem_cons.mp hc with rfl | hc;exact ha;rcases List.mem_cons.mp hc with rfl | hc;exact GQ;cases hc
  refine ⟨_,rfl,_,rfl,_,rfl,by show 2≤sizeLine;decide,fun A hA=>?_⟩;have sA:aB H (upd H1 A (.lst [.int (an:Int),.int (bn:Int)])):=s1.trans (ax (aB.refl H1) hA);refine ⟨t,d,A,s,[an,bn],rfl,tb.same sA,bU.of au,by simp,sF,fun H2 s2=>⟨_,rfl,?_⟩⟩;have lQ:=sA.trans s2;have g2:=Go.same ok.lam lQ;unfold Rd18.of2 at q;rw [if_neg (by decide),jM,jM] at q;cases hx:s.cols.getD an none with
  | none =>
   have h0:cB s an=false:=by unfold cB;rw [hx];rfl
   rw [hx] at q;have e:([an,bn].all (cB s))=false:=by simp [h0]
   rw [e];exact eO ⟨by show 1≤sizeLine;decide,mZ tb g2 rfl rfl q⟩
  | some x =>
   cases hy:s.cols.getD bn none with
   | none =>
    have h0:cB s bn=false:=by unfold cB;rw [hy];rfl
    rw [hx,hy] at q;have e:([an,bn].all (cB s))=false:=by simp [h0]
    rw [e];exact eO ⟨by show 1≤sizeLine;decide,mZ tb g2 rfl rfl q⟩
   | some y =>
    have VV:cB s an=true:=by unfold cB;rw [hx];rfl
    have VW:cB s bn=true:=by unfold cB;rw [hy];rfl
    rw [hx,hy] at q;have q:i9 Z t (s,{ value:=(((List.range s.rows).filter (sJ o.toNat x y)).length:Nat),out:=Rd18.maskOf s.rows (sJ o.toNat x y) }) H Q:=q;have e:([an,bn].all (cB s))=true:=by simp [VV,VW]
    rw [e];refine ux ?_;have wf:=tb.wf;have CA:=wf.rows;have wx:=wf.col an x hx;have Co:=wf.col bn y hy;refine gH T (tb.same lQ) ha hx rfl rfl (gH T (tb.same lQ) GQ hy rfl rfl ?_);refine ⟨_,rfl,_,rfl,_,rfl,by show 2≤sizeLine;decide,fun B hB=>?_⟩;refine mv (K:=K) (cs:=[an,bn]) (xs:=[x,y]) (res:=fun bs=>.bl (Rd18.holds o.toNat (Rd18.worth x.kind (bs.headD 0)) (Rd18.worth y.kind (bs.getD 1 0)))) [.int o,.int x.kind,.int y.kind] tb g2 ND (List.mem_cons_of_mem _ (List.mem_cons_of_mem _ (List.mem_cons_of_mem _ (List.mem_cons_of_mem _ (List.mem_cons_of_mem _ (List.mem_cons_of_mem _ List.mem_cons_self)))))) hB (by simp) sF rfl (by simp only [List.map_cons,List.map_nil,hx,hy]) rfl
     (fun i bs H4 gg Q' hi hb hg hq=>?_) fun r H4 g4 wD=>?_
    ·obtain ⟨c1,c2,rfl,M3,KP⟩:=yy hb;exact ⟨_,_,_,_,_,gg,rfl,rfl,hg,o.toNat,x.kind,c1,y.kind,c2,by rw [Int.toNat_of_nonneg ho.1],by omega,wx.kind,wx.bits c1 M3,Co.kind,Co.bits c2 KP,hq⟩
    ·refine ⟨_,rfl,r,rfl,⟨_,bU.of wD⟩,fun B2 Nq=>d5 (fun v=>some (V.bl (decide (v=V.bl true)))) (bU.of wD) Nq (b8 (by rw [List.length_map,List.length_range];omega)) (fun i v H5 R R0 MY s5 hR h0=>?_) fun H5 s5 PH=>?_⟩
     ·obtain ⟨j,hj,rfl⟩:=eE MY;refine ⟨rfl,?_⟩;exact eO (B:=R0 H5) ⟨_,rfl,rfl,KU _ _ _ _,hR _ H5 (aB.refl _) rfl⟩
     ·have eH:((List.range s.rows).map (iz (cellsOf [x,y]) (fun bs=>.bl (Rd18.holds o.toNat (Rd18.worth x.kind (bs.headD 0)) (Rd18.worth y.kind (bs.getD 1 0)))))).filterMap (fun v=>some (V.bl (decide (v=V.bl true))))=((List.range s.rows).map (sJ o.toNat x y)).map V.bl:=by
       rw [Ji _ (fun v=>V.bl (decide (v=V.bl true))),List.map_map];exact List.map_congr_left fun i _=>congrArg V.bl (Jh o.toNat x y i)
      rw [eH] at PH;have g5:=g4.then s5
      refine ⟨_,rfl,.inl ⟨rfl,_,bU.of PH⟩,B2,_,rfl,rfl,bU.of PH,by show 1≤sizeLine;decide,fun A1 GU=>?_⟩;have Th:=ax (o:=.lst [.int ((((List.range s.rows).map (sJ o.toNat x y)).countP id:Nat):Int)]) (aB.refl H5) GU;refine ⟨_,rfl,B2,_,rfl,bU.of (Th _ _ PH),by rw [List.length_map,List.length_range];omega,fun G H6 s6 Ln OD=>?_⟩;rw [D0] at OD;refine ⟨A1,G,_,_,rfl,rfl,s6 _ _ au,OD,?_,fun r RB=>?_⟩
      ·refine b8 ?_;have h1:(Rd18.maskOf s.rows (sJ o.toNat x y)).length=(s.rows+7) / 8:=by rw [← eP,gb]
       simp only [List.length_append,List.length_cons,List.length_nil,List.length_map,h1];omega
      ·refine mZ tb ((g5.then Th).then s6) rfl ?_ q r RB;have ec:((List.range s.rows).map (sJ o.toNat x y)).countP id=((List.range s.rows).filter (sJ o.toNat x y)).length:=by
        rw [List.countP_map,List.countP_eq_length_filter];rfl
       rw [ec];rfl
noncomputable def one (s:Rd18.Abs) (c:Int):Int:=if Rd18.isCol c=true then (if cB s c.toNat=true then 0 else -3) else -2
theorem qS (c:Int) (f:Rd18.Column→Rd18.Abs×Rd18.Ans) :
  (one s c=0∧∃ (n:Nat) (x:Rd18.Column),c=n∧n < 16∧s.cols.getD n none=some x∧Rd18.of1 s c (Rd18.isCol c) false f=f x)∨(one s c≠0∧Rd18.of1 s c (Rd18.isCol c) false f=(s,Rd18.just (one s c))):=by
 cases hc:Rd18.isCol c with
 | false =>
  have e:one s c=-2:=by unfold one;rw [hc];rfl
  refine .inr ⟨by rw [e];decide,by rw [e];unfold Rd18.of1;rfl⟩
 | true =>
  obtain ⟨n,rfl,hn⟩:=dw hc;unfold one Rd18.of1;rw [if_pos hc,if_neg (c:=true=false) (by decide),jM,Int.toNat_natCast];cases hx:s.cols.getD n none with
  | none =>
   have h0:cB s n=false:=by unfold cB;rw [hx];rfl
   exact .inr ⟨by rw [h0];decide,by rw [h0];rfl⟩
  | some x =>
   have h0:cB s n=true:=by unfold cB;rw [hx];rfl
   exact .inl ⟨by rw [h0];rfl,n,x,rfl,hn,hx,if_neg (by simp)⟩
noncomputable abbrev fZ (Z:cg) (_:PySem.W.Frag):Sp:=fun vs H Q _=>∃ (t d:Addr) (s:Rd18.Abs) (c:Int),vs=[.ref t,.int c]∧TabAt Z H t d s∧∀ H',aB H H'→Q (.int (one s c)) H'
theorem t6 (T:Ty K mg Z) (aL:ae P w K mg base 1 "are_columns" ["numbers"] (bH Z K)) (cU:ae P w K mg base 1 "are_there" ["table","taken"] (i4 Z K)) (D:aX K mg "refusal_of_one" ju ["table","c"] f fd):ae P w K mg base 2 "refusal_of_one" ["table","c"] (fZ Z K):=by
 refine ae.of D tZ (fun vs H Q E h=>?_) (fun bJ A outer s H vs Q E hr h=>?_)
 ·obtain ⟨t,d,s,c,rfl,_⟩:=h;rfl
 ·obtain ⟨t,d,s,c,rfl,tb,q⟩:=h;refine ⟨_,(ai (aR (eU (aN (ah aL (hr.mono (by decide)) (aa (aP (aa (pv 1) ag)) ag)))) (aj (ao (aM T.bb))) aw)
   (aj (ao (br (aN (ah cU (hr.mono (by decide)) (aa (pv 0) (aa (aP (aa (pv 1) ag)) ag)))) (aM T.dB) (aM T.eQ))))),?_⟩
  refine ⟨_,rfl,by show 1≤sizeLine;decide,oX (Z:=Z) (ns:=[c]) (by show 1≤100;decide) fun H1 s1=>?_⟩;have e1:([c].all fun c=>decide (0≤c∧c≤15))=Rd18.isCol c:=by rw [bI];simp
  rw [e1];unfold one at q;refine yz (fun h1=>?_) (fun h1=>?_)
  ·rw [h1] at q;exact q H1 s1
  ·obtain ⟨n,rfl,hn⟩:=dw h1;rw [if_pos h1,Int.toNat_natCast] at q;refine ⟨_,rfl,_,rfl,by show 1≤sizeLine;decide,fun A hA=>?_⟩;have sA:aB H (upd H1 A (.lst [.int (n:Int)])):=s1.trans (ax (aB.refl H1) hA);refine ⟨t,d,A,s,[n],rfl,tb.same sA,bU.of au,by simp,by simpa using hn,fun H2 s2=>⟨_,rfl,?_⟩⟩;have e:([n].all (cB s))=cB s n:=by simp
   rw [e];refine kJ (fun h2=>?_) (fun h2=>?_)
   ·rw [h2,if_pos rfl] at q;exact q H2 (sA.trans s2)
   ·rw [h2,if_neg (by decide)] at q;exact q H2 (sA.trans s2)
noncomputable abbrev j1 (Z:cg) (_:PySem.W.Frag):Sp:=fun vs H Q _=>∃ (t:Addr) (s:Rd18.Abs) (c:Int),vs=[.ref t,.int c]∧pd Z H t s∧i9 Z t (Rd18.does s (.classes c)) H Q
noncomputable abbrev nT (Z:cg) (_:PySem.W.Frag):Sp:=fun vs H Q _=>∃ (t:Addr) (s:Rd18.Abs) (c:Int),vs=[.ref t,.int c]∧pd Z H t s∧i9 Z t (Rd18.does s (.sum c)) H Q
noncomputable abbrev mx (Z:cg) (_:PySem.W.Frag):Sp:=fun vs H Q _=>∃ (t:Addr) (s:Rd18.Abs) (c:Int),vs=[.ref t,.int c]∧pd Z H t s∧i9 Z t (Rd18.does s (.ends c)) H Q
theorem Jj (l:List Rd18.Cell):(l.filterMap id).length=Rd18.there l:=by
 unfold Rd18.there;induction l with
 | nil=>rfl
 | cons c r ih=>cases c with
  | none=>simpa using ih
  | some b=>simpa using ih
theorem D1 {l:List Rd18.Cell} {b:Nat} (h:b∈l.filterMap id):some b∈l:=by
 obtain ⟨c,hc,e⟩:=List.mem_filterMap.mp h;have:c=some b:=e;rw [← this];exact hc
theorem Jk (l:List Rd18.Cell):(l.filterMap id).length≤l.length:=List.length_filterMap_le _ _
theorem Cq (x:Rd18.Column):Rd18.classes x=Rd18.missing x.cells::ym x.kind (x.cells.filterMap id):=rfl
theorem D3 (x:Rd18.Column):Rd18.worths x=(x.cells.filterMap id).map (Rd18.worth x.kind):=by
 unfold Rd18.worths;induction x.cells with
 | nil=>rfl
 | cons c r ih=>cases c with
  | none=>simpa using ih
  | some b=>simpa using ih
theorem KW {x:Rd18.Column} (hk:x.kind≤8):Rd18.sumOf x=wordsOf x.kind (x.cells.filterMap id):=by
 unfold Rd18.sumOf wordsOf;split
 ·rw [D3,LF hk]
 ·rfl
theorem Cr {x:Rd18.Column} (hk:x.kind≤8):Rd18.numbers x=(x.cells.filterMap id).filter fun b=>!cX x.kind b:=by
 unfold Rd18.numbers;refine List.filter_congr fun b _=>?_;rw [ug hk]
theorem qk (T:Ty K mg Z) (cf:ae P w K mg base 2 "refusal_of_one" ["table","c"] (fZ Z K)) (dg:ae P w K mg base 1 "not_missing" ["numbers"] (iU Z K)) (lG:ae P w K mg base 6 "class_counts" ["kind","numbers"] (oV Z K)) (bO:ae P w K mg base 1 "count_missing" ["numbers"] (eL Z K)) (D:aX K mg "classes_of_column" gO ["table","c"] f fd):ae P w K mg base 7 "classes_of_column" ["table","c"] (j1 Z K):=by
 refine ae.of D d8 (fun vs H Q E h=>?_) (fun bJ A outer s H vs Q E hr h=>?_)
 ·obtain ⟨t,s,c,rfl,_⟩:=h;rfl
 ·obtain ⟨t,s,c,rfl,ok,q⟩:=h;refine ⟨_,(ai (aO (i:=2) d8.nd rfl (by first | exact Or.inl rfl | exact Or.inr rfl) (ah cf (hr.mono (by decide)) (aa (pv 0) (aa (pv 1) ag))))
   (ai (aR (aG lY (pv 2) (aM T.dB) (aJ _)) (aj (ao (aP (aa (pv 2) ag)))) aw)
   (ai (aO (i:=3) d8.nd rfl (by first | exact Or.inl rfl | exact Or.inr rfl) (aE (cu (cQ hr) (aE (pv 0) rfl) (pv 1) (fun _ _=>rfl)) rfl))
   (ai (aO (i:=4) d8.nd rfl (by first | exact Or.inl rfl | exact Or.inr rfl) (ah dg (hr.mono (by decide)) (aa (pv 3) ag)))
   (aj (ao (aT r8 (aP (aa (bA b9 (by rfl) T.kz jh (aa (pv 4) ag)) (aa (ah bO (hr.mono (by decide)) (aa (pv 3) ag)) ag))) (ah lG (hr.mono (by decide)) (aa (aE (cu (cQ hr) (aE (pv 0) rfl) (pv 1) (fun _ _=>rfl)) rfl) (aa (pv 4) ag)))))))))),?_⟩
  have dh:Rd18.does s (.classes c)=Rd18.of1 s c (Rd18.isCol c) false fun x=>(s,{ value:=(Rd18.there x.cells:Nat),out:=Rd18.classes x }):=rfl;rw [dh] at q;obtain ⟨d,tb⟩:=ok.tab;refine ⟨_,rfl,_,rfl,t,d,s,c,rfl,tb,fun H1 s1=>?_⟩;refine ⟨_,rfl,rfl,_,rfl,iA (fun kW=>?_) (fun heq=>?_)⟩
  ·rcases qS (s:=s) c _ with ⟨h0,_⟩ | ⟨h0,he⟩
   ·exact absurd (by rw [h0]) kW
   ·have q':=he▸q;exact ⟨_,rfl,by show 1≤sizeLine;decide,bQ ok s1 rfl rfl q'⟩
  ·rcases qS (s:=s) c _ with ⟨h0,cn,x,rfl,hc,hx,he⟩ | ⟨h0,he⟩
   ·have q':=he▸q;have wf:=tb.wf;have wx:=wf.col cn x hx;have CA:=wf.rows;refine lC T (tb.same s1) hc hx rfl rfl fun qq yJ=>?_;refine ⟨_,rfl,qq,x.cells,rfl,bU.of yJ,by rw [wx.len];omega,fun r H2 s2 IV xT=>?_⟩;have lQ:=s1.trans s2;have RM:=s2 _ _ yJ;have hl:(x.cells.filterMap id).length≤2048:=Nat.le_trans (Jk _) (by rw [wx.len];exact CA);refine ⟨_,rfl,r,_,rfl,.inl (bU.of xT),_,rfl,qq,x.cells,rfl,bU.of RM,by rw [wx.len];omega,fun H3 s3=>⟨by show 2≤sizeLine;decide,fun A1 GU=>?_⟩⟩;have sA:=ax (o:=.lst [.int (((x.cells.filterMap id).map fun (b:Nat)=>V.int b).length:Nat),.int (Rd18.missing x.cells:Nat)]) (aB.refl H3) GU;have OJ:=(lQ.trans s3).trans sA;refine gH T (tb.same OJ) hc hx rfl rfl ?_;refine ⟨_,rfl,x.kind,r,x.cells.filterMap id,rfl,wx.kind,bU.of (sA _ _ (s3 _ _ xT)),by omega,fun b hb=>wx.bits b (D1 hb),fun G H4 s4 Ti OK=>?_⟩;refine ⟨A1,G,_,_,rfl,rfl,s4 _ _ au,OK,b8 (by simp [ym]),fun p hp=>?_⟩;refine bQ ok (OJ.trans s4) rfl ?_ q' p hp;show V.int ((Rd18.there x.cells:Nat):Int)::aZ (Rd18.classes x)=_;rw [Cq,List.length_map,Jj];rfl
   ·exact absurd (V.int.inj heq) h0
theorem u6 (T:Ty K mg Z) (cf:ae P w K mg base 2 "refusal_of_one" ["table","c"] (fZ Z K)) (dg:ae P w K mg base 1 "not_missing" ["numbers"] (iU Z K)) (lH:ae P w K mg base 6 "words_of_sum" ["kind","numbers"] (oW Z K)) (D:aX K mg "sum_of_column" kl ["table","c"] f fd):ae P w K mg base 7 "sum_of_column" ["table","c"] (nT Z K):=by
 refine ae.of D jv (fun vs H Q E h=>?_) (fun bJ A outer s H vs Q E hr h=>?_)
 ·obtain ⟨t,s,c,rfl,_⟩:=h;rfl
 ·obtain ⟨t,s,c,rfl,ok,q⟩:=h;refine ⟨_,(ai (aO (i:=2) jv.nd rfl (by first | exact Or.inl rfl | exact Or.inr rfl) (ah cf (hr.mono (by decide)) (aa (pv 0) (aa (pv 1) ag))))
   (ai (aR (aG lY (pv 2) (aM T.dB) (aJ _)) (aj (ao (aP (aa (pv 2) ag)))) aw)
   (ai (aO (i:=3) jv.nd rfl (by first | exact Or.inl rfl | exact Or.inr rfl) (ah dg (hr.mono (by decide)) (aa (aE (cu (cQ hr) (aE (pv 0) rfl) (pv 1) (fun _ _=>rfl)) rfl) ag)))
   (aj (ao (aT r8 (aP (aa (bA b9 (by rfl) T.kz jh (aa (pv 3) ag)) ag)) (ah lH (hr.mono (by decide)) (aa (aE (cu (cQ hr) (aE (pv 0) rfl) (pv 1) (fun _ _=>rfl)) rfl) (aa (pv 3) ag))))))))),?_⟩
  have dh:Rd18.does s (.sum c)=Rd18.of1 s c (Rd18.isCol c) false fun x=>(s,{ value:=(Rd18.there x.cells:Nat),out:=Rd18.sumOf x }):=rfl;rw [dh] at q;obtain ⟨d,tb⟩:=ok.tab;refine ⟨_,rfl,_,rfl,t,d,s,c,rfl,tb,fun H1 s1=>?_⟩;refine ⟨_,rfl,rfl,_,rfl,iA (fun kW=>?_) (fun heq=>?_)⟩
  ·rcases qS (s:=s) c _ with ⟨h0,_⟩ | ⟨h0,he⟩
   ·exact absurd (by rw [h0]) kW
   ·have q':=he▸q;exact ⟨_,rfl,by show 1≤sizeLine;decide,bQ ok s1 rfl rfl q'⟩
  ·rcases qS (s:=s) c _ with ⟨h0,cn,x,rfl,hc,hx,he⟩ | ⟨h0,he⟩
   ·have q':=he▸q;have wf:=tb.wf;have wx:=wf.col cn x hx;have CA:=wf.rows;refine lC T (tb.same s1) hc hx rfl rfl fun qq yJ=>?_;refine ⟨qq,x.cells,rfl,bU.of yJ,by rw [wx.len];omega,fun r H2 s2 IV xT=>?_⟩;have lQ:=s1.trans s2;have hl:(x.cells.filterMap id).length≤2048:=Nat.le_trans (Jk _) (by rw [wx.len];exact CA);refine ⟨_,rfl,r,_,rfl,.inl (bU.of xT),by show 1≤sizeLine;decide,fun A1 GU=>?_⟩;have sA:=ax (o:=.lst [.int (((x.cells.filterMap id).map fun (b:Nat)=>V.int b).length:Nat)]) (aB.refl H2) GU;have OJ:=lQ.trans sA;refine gH T (tb.same OJ) hc hx rfl rfl ?_;refine ⟨_,rfl,x.kind,r,x.cells.filterMap id,rfl,wx.kind,bU.of (sA _ _ xT),by omega,fun b hb=>wx.bits b (D1 hb),fun G H4 s4 Ti OK=>?_⟩;refine ⟨A1,G,_,_,rfl,rfl,s4 _ _ au,OK,b8 ?_,fun p hp=>?_⟩
    ·rw [List.length_map (as:=wordsOf _ _)];unfold wordsOf;split <;> simp
    ·refine bQ ok (OJ.trans s4) rfl ?_ q' p hp;show V.int ((Rd18.there x.cells:Nat):Int)::aZ (Rd18.sumOf x)=_;rw [KW wx.kind,List.length_map,Jj];rfl
   ·exact absurd (V.int.inj heq) h0
theorem t7 (T:Ty K mg Z) (cf:ae P w K mg base 2 "refusal_of_one" ["table","c"] (fZ Z K)) (ig:ae P w K mg base 2 "numbers_in_order" ["kind","numbers"] (kB Z K)) (dg:ae P w K mg base 1 "not_missing" ["numbers"] (iU Z K)) (gw:ae P w K mg base 8 "least_and_greatest" ["kind","numbers"] (je Z K)) (ND:((tabs Z).map (·.1)).Nodup) (D:aX K mg "ends_of_column" jw ["table","c"] f fd):ae P w K mg base 9 "ends_of_column" ["table","c"] (mx Z K):=by
 refine ae.of D fY (fun vs H Q E h=>?_) (fun bJ A outer s H vs Q E hr h=>?_)
 ·obtain ⟨t,s,c,rfl,_⟩:=h;rfl
 ·obtain ⟨t,s,c,rfl,ok,q⟩:=h;refine ⟨_,(ai (aO (i:=2) fY.nd rfl (by first | exact Or.inl rfl | exact Or.inr rfl) (ah cf (hr.mono (by decide)) (aa (pv 0) (aa (pv 1) ag))))
   (ai (aR (aG lY (pv 2) (aM T.dB) (aJ _)) (aj (ao (aP (aa (pv 2) ag)))) aw)
   (ai (aO (i:=3) fY.nd rfl (by first | exact Or.inl rfl | exact Or.inr rfl) (aE (cu (cQ hr) (aE (pv 0) rfl) (pv 1) (fun _ _=>rfl)) rfl))
   (ai (aO (i:=4) fY.nd rfl (by first | exact Or.inl rfl | exact Or.inr rfl) (ah ig (hr.mono (by decide)) (aa (pv 3) (aa (ah dg (hr.mono (by decide)) (aa (aE (cu (cQ hr) (aE (pv 0) rfl) (pv 1) (fun _ _=>rfl)) rfl) ag)) ag))))
   (ai (aR (aG bD (bA b9 (by rfl) T.kz jh (aa (pv 4) ag)) ar (aJ _)) (aj (ao (aP (aa (aM T.mf) ag)))) aw)
   (aj (ao (aT r8 (aP (aa (bA b9 (by rfl) T.kz jh (aa (pv 4) ag)) ag)) (ah gw (hr.mono (by decide)) (aa (pv 3) (aa (pv 4) ag))))))))))),?_⟩
  have dh:Rd18.does s (.ends c)=Rd18.of1 s c (Rd18.isCol c) false fun x=>if (Rd18.numbers x).isEmpty=true then (s,Rd18.just (-5)) else (s,{ value:=((Rd18.numbers x).length:Nat),out:=[Rd18.wide x.kind (Rd18.least x.kind (Rd18.numbers x)),Rd18.wide x.kind (Rd18.most x.kind (Rd18.numbers x))] }):=rfl
  rw [dh] at q;obtain ⟨d,tb⟩:=ok.tab;refine ⟨_,rfl,_,rfl,t,d,s,c,rfl,tb,fun H1 s1=>?_⟩;refine ⟨_,rfl,rfl,_,rfl,iA (fun kW=>?_) (fun heq=>?_)⟩
  ·rcases qS (s:=s) c _ with ⟨h0,_⟩ | ⟨h0,he⟩
   ·exact absurd (by rw [h0]) kW
   ·have q':=he▸q;exact ⟨_,rfl,by show 1≤sizeLine;decide,bQ ok s1 rfl rfl q'⟩
  ·rcases qS (s:=s) c _ with ⟨h0,cn,x,rfl,hc,hx,he⟩ | ⟨h0,he⟩
   ·have q':=he▸q;have wf:=tb.wf;have wx:=wf.col cn x hx;have CA:=wf.rows;rw [Cr wx.kind] at q';have hl:(x.cells.filterMap id).length≤2048:=Nat.le_trans (Jk _) (by rw [wx.len];exact CA);refine gH T (tb.same s1) hc hx rfl rfl ?_;refine ⟨_,rfl,?_⟩;refine lC T (tb.same s1) hc hx rfl rfl fun qq yJ=>?_;refine ⟨qq,x.cells,rfl,bU.of yJ,by rw [wx.len];omega,fun r H2 s2 IV xT=>?_⟩;have lQ:=s1.trans s2;refine ⟨x.kind,r,x.cells.filterMap id,rfl,wx.kind,xT,by omega,fun r3 H3 s3 Jz=>?_⟩;have xj:∀ b∈(x.cells.filterMap id).filter (fun b=>!cX x.kind b),Vk x.kind b∧cX x.kind b=false:=fun b hb=>by
     rw [List.mem_filter] at hb;exact ⟨wx.bits b (D1 hb.1),by simpa using hb.2⟩
    have X5:((x.cells.filterMap id).filter (fun b=>!cX x.kind b)).length≤2048:=Nat.le_trans (List.length_filter_le _ _) hl;generalize hB:(x.cells.filterMap id).filter (fun b=>!cX x.kind b)=bs at *
    have KY:=lQ.trans s3;have g3:=Go.same ok.lam KY;refine ⟨_,rfl,r3,_,rfl,.inl (bU.of Jz),rfl,_,rfl,lP (fun h0=>?_) (fun h0=>?_)⟩
    ·have e0:bs=[]:=by
      have:=V.int.inj h0;rw [List.length_map] at this;exact List.length_eq_zero_iff.mp (by omega)
     rw [e0] at q';exact ⟨by show 1≤sizeLine;decide,bQ ok KY rfl rfl q'⟩
    ·have kW:bs≠[]:=fun e=>h0 (by rw [e];rfl);rw [if_neg (by rw [List.isEmpty_iff];exact kW)] at q';refine ⟨_,rfl,r3,_,rfl,.inl (bU.of Jz),by show 1≤sizeLine;decide,fun A1 GU=>?_⟩;have sA:=ax (o:=.lst [.int ((aZ bs).length:Nat)]) (aB.refl H3) GU;have gA:=g3.then sA
     have hm:(Z.rD,EW)∈tabs Z:=by unfold tabs;simp
     refine ⟨_,rfl,_,rfl,x.kind,r3,bs,rfl,wx.kind,sA _ _ Jz,kW,fun b hb=>(xj b hb).1,gA.lam _ hm,fun G H4 k4 PJ Ti OK=>?_⟩;have g4:=gA.trans (Go.made gA.lam ND hm PJ k4);have VX:H4 A1=some (.lst [.int ((aZ bs).length:Nat)]):=(Go.made gA.lam ND hm PJ k4).nt _ _ au (fun _ z=>by cases z);refine ⟨A1,G,_,_,rfl,rfl,VX,OK,b8 (by simp),fun p hp=>?_⟩;refine mZ tb g4 rfl ?_ q' p hp;show V.int ((bs.length:Nat):Int)::aZ [Rd18.wide x.kind (Rd18.least x.kind bs),Rd18.wide x.kind (Rd18.most x.kind bs)]=_;rw [G9 wx.kind xj,JP wx.kind xj,List.length_map];rfl
   ·exact absurd (V.int.inj heq) h0
end
end NK
set_option exponentiation.threshold 2000
namespace L2
open PySem PySem.Spec PyProof.Rows
theorem KZ {X:Cx} {K:PySem.W.Frag} {pos:Pos} {es:List Expr} {k:Nat} {t:K7} {n:Nat} (hK:X.K=K) (hc:X.calm=true) (h:NN X es t)
  (hn:(assignEach es X.env).length=n:=by rfl) (Jr:(assignEach es X.env).findIdx? (·.1)=none:=by rfl):PG X (.Tuple es k pos) (NQ K n t):=by
 subst hK;exact Hl hc h hn Jr
end L2
namespace NK
open PySem L2
section
variable {P:Program} {w:World} {K:PySem.W.Frag} {mg:Str→Option Value} {base:Heap} {f:Addr} {fd:FuncData} {Z:cg} {H H1 H2:Hp} {Q:VK} {E:XK} {CF t d:Addr} {s:Rd18.Abs}
theorem AY {m:List Nat} {n:Int} {i r:Nat} (hm:m.length=(Rd18Neutral.many n+7) / 8) (hn:n=(r:Int)) (hr:r≤2048) (hi:i < r):i / 8 < m.length:=by
 have:Rd18Neutral.many n=r:=by unfold Rd18Neutral.many;rw [if_pos (by omega),hn,Int.toNat_natCast]
 rw [hm,this];omega
theorem sO {l:List Rd18.Cell} {i:Nat} (h:i < l.length):(cells l)[i]?=some (d6 (l.getD i none)):=by
 rw [List.getElem?_map,List.getElem?_eq_getElem h];simp [List.getD,h]
theorem K0 (T:Ty K mg Z) {R:VK} {c j:Nat} {x:Rd18.Column} {σ:St} (tb:TabAt Z H t d s) (hc:c < 16) (hx:s.cols.getD c none=some x) (h0:σ[0]?=some (some (.ref t))) (hj:σ[j]?=some (some (.int c))) (q:∀ p dp qq,H p=some (.ins Z.CC dp (fC x.kind qq))→H qq=some (.lst (cells x.cells))→R (.ref p) H):BW (tFld K (tVar 0) "columns") (tVar j) σ H R:=by
 obtain ⟨⟨dx,ht⟩,⟨a8,hd,nX⟩,wf⟩:=tb;obtain ⟨p,hv,dp,qq,hp,yJ⟩:=nX.get hc hx;exact ⟨_,h0,t,Z.CT,dx,_,_,rfl,ht,T.ud,T.nN,cA _ _,_,hj,d,_,rfl,(by rw [← hv];exact nB.k (k:=Sum.inl (c:Int)) hd),q p dp qq hp yJ⟩
noncomputable abbrev o5 (Z:cg) (K:PySem.W.Frag):Sp:=fun vs H Q _=>∃ (t a:Addr) (s:Rd18.Abs) (c n:Int) (m:List Nat),vs=[.ref t,.int c,.int n,.ref a]∧pd Z H t s∧bU K H a (aZ m)∧m.length=(Rd18Neutral.many n+7) / 8∧i9 Z t (Rd18.does s (.blank c m n)) H Q
noncomputable def oK (s:Rd18.Abs) (m:List Nat) (x:Rd18.Column):List Rd18.Cell:=(List.range s.rows).map fun i=>if Rd18.bit m i=true then none else x.cells.getD i none
theorem Jl {m:List Nat} {x:Rd18.Column} (wx:AK s.rows x):AK s.rows { kind:=x.kind,cells:=oK s m x }:=by
 refine ⟨wx.kind,by unfold oK;simp,fun b hb=>?_⟩;have hb:some b∈(List.range s.rows).map fun i=>if Rd18.bit m i=true then none else x.cells.getD i none:=hb
 obtain ⟨i,_,e⟩:=List.mem_map.mp hb;split at e
 ·cases e
 ·exact wx.bits b (getD_mem e)
theorem wc (T:Ty K mg Z) (cU:ae P w K mg base 1 "are_there" ["table","taken"] (i4 Z K)) (bO:ae P w K mg base 1 "count_missing" ["numbers"] (eL Z K)) (aL:ae P w K mg base 1 "are_columns" ["numbers"] (bH Z K)) (i6:ae P w K mg base 1 "is_set" ["mask","row"] (qP Z K)) (bz:lO P w K mg base 1 "Column" Z.CC ["kind","numbers"]) (D:aX K mg "blank_column" i3 ["table","c","n","mask"] f fd):ae P w K mg base 3 "blank_column" ["table","c","n","mask"] (o5 Z K):=by
 refine ae.of D ft (fun vs H Q E h=>?_) (fun bJ A outer s H vs Q E hr h=>?_)
 ·obtain ⟨t,a,s,c,n,m,rfl,_⟩:=h;rfl
 ·obtain ⟨t,a,s,c,n,m,rfl,ok,hS,hm,q⟩:=h;refine ⟨_,(ai (aR (eU (PW.pt (fK (aN (ah aL (hr.mono (by decide)) (aa (aP (aa (pv 1) ag)) ag))) (gx (aG bD (pv 2) (aE (pv 0) rfl) (aJ _)))))) (aj (ao (aP (aa (aM T.bb) ag)))) aw)
   (ai (aR (eU (aN (ah cU (hr.mono (by decide)) (aa (pv 0) (aa (aP (aa (pv 1) ag)) ag))))) (aj (ao (aP (aa (aM T.eQ) ag)))) aw)
   (ai (aO (i:=4) ft.nd rfl (by first | exact Or.inl rfl | exact Or.inr rfl) (cu (cQ hr) (aE (pv 0) rfl) (pv 1) (fun _ _=>rfl)))
   (ai (jT (i:=5) (own:=[("row",6),("x",7)]) rfl ft.nd rfl rfl (l8 rfl rfl (by rfl) (by rfl)) (EK (by rfl) T.jZ (aa (aE (pv 4) rfl) ag)) (cq (N:=["table","c","n","mask","old","numbers","row","x"]) (sc:=ak i3) (by decide +kernel)) (by intro _ _ _ _ _;exact (KZ (n:=2) (K:=K) rfl rfl (tp (bZ (i:=6) ft.nd rfl (by first | exact Or.inl rfl | exact Or.inr rfl)) (tp (bZ (i:=7) ft.nd rfl (by first | exact Or.inl rfl | exact Or.inr rfl)) Eo)))) (by intro _ _ _ _ _;exact eA) (by intro _ _ _ _ _;exact (br (aN (ah i6 (hr.mono (by decide)) (aa (pv 3) (aa (pv 6) ag)))) n8 (pv 7))))
   (ai (iH (cQ hr) (aE (pv 0) rfl) (pv 1) (dQ bz (hr.mono (by decide)) (aa (aE (pv 4) rfl) (aa (pv 5) ag))) rfl)
   (aj (ao (aP (aa (ah bO (hr.mono (by decide)) (aa (pv 5) ag)) ag))))))))),?_⟩
  have dh:Rd18.does s (.blank c m n)=Rd18.of1 s c (Rd18.isCol c&&decide (n=(s.rows:Int))) false fun x=>(Rd18.set_ s c { x with cells:=oK s m x },Rd18.just (Rd18.missing (oK s m x):Nat)):=rfl;rw [dh] at q;have bad:(Rd18.isCol c&&decide (n=(s.rows:Int)))=false→∀ H1,aB H H1→∀ p,H1 p=none→Q (.ref p) (upd H1 p (.lst [.int (-2)])):=fun h H1 s1=>by
   rw [h] at q;exact bQ ok s1 rfl rfl q
  obtain ⟨d,tb⟩:=ok.tab;refine ⟨_,rfl,by show 1≤sizeLine;decide,oX (Z:=Z) (ns:=[c]) (by show 1≤100;decide) fun H1 s1=>?_⟩;have e1:([c].all fun c=>decide (0≤c∧c≤15))=Rd18.isCol c:=by rw [bI];simp
  rw [e1];refine kJ (fun h1=>?_) (fun h1=>eO ⟨by show 1≤sizeLine;decide,bad (by rw [h1];rfl) H1 s1⟩);refine ⟨_,rfl,jN T (tb.same s1) rfl ⟨rfl,_,rfl,iA (fun h3=>⟨by show 1≤sizeLine;decide,bad (by rw [h1,decide_eq_false (fun e=>h3 (by rw [e]))];rfl) H1 s1⟩) (fun h3=>?_)⟩⟩;have EY:n=(s.rows:Int):=V.int.inj h3;rw [h1,decide_eq_true EY] at q;obtain ⟨cn,rfl,hc⟩:=dw h1;refine ⟨_,rfl,_,rfl,by show 1≤sizeLine;decide,fun A hA=>?_⟩;have sA:aB H (upd H1 A (.lst [.int (cn:Int)])):=s1.trans (ax (aB.refl H1) hA);refine ⟨t,d,A,s,[cn],rfl,tb.same sA,bU.of au,by simp,by simpa using hc,fun H2 s2=>⟨_,rfl,?_⟩⟩;have lQ:=sA.trans s2;have e:([cn].all (cB s))=cB s cn:=by simp
  rw [e];unfold Rd18.of1 at q;rw [if_neg (by decide),jM] at q;cases hx:s.cols.getD cn none with
  | none =>
   have h0:cB s cn=false:=by unfold cB;rw [hx];rfl
   rw [hx] at q;rw [h0];exact eO ⟨by show 1≤sizeLine;decide,bQ ok lQ rfl rfl q⟩
  | some x =>
   have h0:cB s cn=true:=by unfold cB;rw [hx];rfl
   rw [hx] at q;have q:i9 Z t (Rd18.set_ s cn { x with cells:=oK s m x },Rd18.just (Rd18.missing (oK s m x):Nat)) H Q:=q;rw [h0];refine ux ?_;have wf:=tb.wf;have CA:=wf.rows;have wx:=wf.col cn x hx;refine K0 T (tb.same lQ) hc hx rfl rfl fun p dp qq hp yJ=>?_;refine ⟨_,rfl,p,Z.CC,dp,_,_,rfl,hp,T.DG,T.DH,lx _ _,qq,_,rfl,bU.of yJ,fun D hD=>Iy (fun i v=>if Rd18.bit m i=true then V.dR else v) (bU.of yJ) hD (b8 (by rw [List.length_map,wx.len];omega)) (fun i v TT H3 R R0 VY s3 hT hR=>?_) fun H3 s3 wq=>?_⟩
   ·have hi:i < s.rows:=by
     have:=(List.getElem?_eq_some_iff.mp VY).1;rw [List.length_map,wx.len] at this;exact this
    refine ⟨TT,_,rfl,vi.of hT,rfl,_,_,rfl,_,_,rfl,rfl,rfl,?_⟩;have Kv:=(lQ.trans s3).seq hS;have kP:=hR _ H3 (aB.refl _) rfl;refine eO (B:=R0 H3) ⟨_,rfl,_,rfl,a,m,i,rfl,Kv,AY hm EY CA hi,_,rfl,?_⟩;refine kJ (fun hb=>?_) (fun hb=>?_)
    ·rw [if_pos hb] at kP;exact kP
    ·rw [if_neg (by rw [hb];decide)] at kP;exact ⟨_,rfl,kP⟩
   ·have eB:(List.range (cells x.cells).length).map (fun i=>(fun i v=>if Rd18.bit m i=true then V.dR else v) i ((cells x.cells).getD i .dR))=cells (oK s m x):=by
     unfold oK cells;rw [List.length_map,wx.len,List.map_map];refine List.map_congr_left fun i hi=>?_;have OE:i < x.cells.length:=by rw [wx.len];exact List.mem_range.mp hi
     have:=sO OE;unfold cells at this;simp only [List.getD_eq_getElem?_getD,this,Option.getD_some,Function.comp];split <;> simp_all [List.getD,d6]
    rw [eB] at wq;have KY:=lQ.trans s3;have g3:=Go.same ok.lam KY;refine gN ?_;dsimp only;refine sq (i5 T (k:=x.kind) (c:=cn) (tb.same KY) g3.ky hc wq (Jl wx) rfl rfl rfl (fun R hR=>⟨_,rfl,p,Z.CC,dp,_,_,rfl,s3 _ _ hp,T.DG,T.Ca,oq _ _,hR⟩) fun H6 Cn k6 JB=>?_);refine ⟨_,rfl,D,_,rfl,bU.of (JB _ _ wq (.inl ⟨_,rfl⟩)),by unfold oK;simp;omega,fun H7 s7=>⟨by show 1≤sizeLine;decide,?_⟩⟩;exact m8 (Cn.same s7) (k6.then s7) q rfl rfl
noncomputable abbrev my (Z:cg) (K:PySem.W.Frag):Sp:=fun vs H Q _=>∃ (t l:Addr) (s:Rd18.Abs) (a b n to:Int) (m:List Nat),vs=[.ref t,.int a,.int b,.int n,.int to,.ref l]∧pd Z H t s∧bU K H l (aZ m)∧m.length=(Rd18Neutral.many n+7) / 8∧i9 Z t (Rd18.does s (.choose a b m n to)) H Q
noncomputable def qT (s:Rd18.Abs) (m:List Nat) (x y:Rd18.Column):List Rd18.Cell:=(List.range s.rows).map fun i=>if Rd18.bit m i=true then x.cells.getD i none else y.cells.getD i none
theorem Gz {m:List Nat} {x y:Rd18.Column} (wx:AK s.rows x) (wy:AK s.rows y) (hk:y.kind=x.kind):AK s.rows { kind:=x.kind,cells:=qT s m x y }:=by
 refine ⟨wx.kind,by unfold qT;simp,fun b hb=>?_⟩;have hb:some b∈(List.range s.rows).map fun i=>if Rd18.bit m i=true then x.cells.getD i none else y.cells.getD i none:=hb
 obtain ⟨i,_,e⟩:=List.mem_map.mp hb;split at e
 ·exact wx.bits b (getD_mem e)
 ·have:=wy.bits b (getD_mem e);rw [hk] at this;exact this
theorem AZ {α:Type} (g:Nat→α):∀ l:List Nat,l.filterMap (fun i=>some (g i))=l.map g
 | []=>rfl
 | a::r=>by
  have ih:=AZ g r;show g a::r.filterMap _=_;rw [ih];rfl
theorem t8 (T:Ty K mg Z) (aQ:ae P w K mg base 2 "refusal_of_taken" ["table","taken","only_broken"] (bX Z K)) (aL:ae P w K mg base 1 "are_columns" ["numbers"] (bH Z K)) (i6:ae P w K mg base 1 "is_set" ["mask","row"] (qP Z K)) (bz:lO P w K mg base 1 "Column" Z.CC ["kind","numbers"]) (D:aX K mg "choose_columns" gF ["table","a","b","n","to","mask"] f fd):ae P w K mg base 3 "choose_columns" ["table","a","b","n","to","mask"] (my Z K):=by
 refine ae.of D dt (fun vs H Q E h=>?_) (fun bJ A outer s H vs Q E hr h=>?_)
 ·obtain ⟨t,l,s,a,b,n,to,m,rfl,_⟩:=h;rfl
 ·obtain ⟨t,l,s,a,b,n,to,m,rfl,ok,hS,hm,q⟩:=h;refine ⟨_,(ai (aR (eU (PW.pt (fK (aN (ah aL (hr.mono (by decide)) (aa (aP (aa (pv 1) (aa (pv 2) (aa (pv 4) ag)))) ag))) (gx (aG bD (pv 3) (aE (pv 0) rfl) (aJ _)))))) (aj (ao (aP (aa (aM T.bb) ag)))) aw)
   (ai (aO (i:=6) dt.nd rfl (by first | exact Or.inl rfl | exact Or.inr rfl) (ah aQ (hr.mono (by decide)) (aa (pv 0) (aa (aP (aa (pv 1) (aa (pv 2) ag))) (aa tm ag)))))
   (ai (aR (aG lY (pv 6) (aM T.dB) (aJ _)) (aj (ao (aP (aa (pv 6) ag)))) aw)
   (ai (aO (i:=7) dt.nd rfl (by first | exact Or.inl rfl | exact Or.inr rfl) (aE (cu (cQ hr) (aE (pv 0) rfl) (pv 1) (fun _ _=>rfl)) rfl))
   (ai (aO (i:=8) dt.nd rfl (by first | exact Or.inl rfl | exact Or.inr rfl) (aE (cu (cQ hr) (aE (pv 0) rfl) (pv 2) (fun _ _=>rfl)) rfl))
   (ai (jT (i:=9) (own:=[("row",10)]) rfl dt.nd rfl rfl (l8 rfl rfl (by rfl) (by rfl)) (qF (by rfl) T.oh (aa (aE (pv 0) rfl) ag)) (cq (N:=["table","a","b","n","to","mask","refused","from_a","from_b","numbers","row"]) (sc:=ak gF) (by decide +kernel)) (fun _ _ _ _ _=>(bZ (i:=10) dt.nd rfl (by first | exact Or.inl rfl | exact Or.inr rfl))) (by intro _ _ _ _ _;exact eA) (by intro _ _ _ _ _;exact (br (aN (ah i6 (hr.mono (by decide)) (aa (pv 5) (aa (pv 10) ag)))) (bu (tV (K:=K) rfl) (pv 7) (pv 10) (fun _ _=>rfl)) (bu (tV (K:=K) rfl) (pv 8) (pv 10) (fun _ _=>rfl)))))
   (ai (iH (cQ hr) (aE (pv 0) rfl) (pv 4) (dQ bz (hr.mono (by decide)) (aa (aE (cu (cQ hr) (aE (pv 0) rfl) (pv 1) (fun _ _=>rfl)) rfl) (aa (pv 9) ag))) rfl)
   (aj (ao (aP (aa (aM T.dB) ag))))))))))),?_⟩
  have dh:Rd18.does s (.choose a b m n to)=Rd18.of2 s a b (Rd18.isCol a&&(Rd18.isCol b&&(Rd18.isCol to&&decide (n=(s.rows:Int))))) (fun x y=>x.kind == y.kind) fun x y=>(Rd18.set_ s to { x with cells:=qT s m x y },Rd18.just 0):=rfl;rw [dh] at q;have bad:(Rd18.isCol a&&(Rd18.isCol b&&(Rd18.isCol to&&decide (n=(s.rows:Int)))))=false→∀ H1,aB H H1→∀ p,H1 p=none→Q (.ref p) (upd H1 p (.lst [.int (-2)])):=fun h H1 s1=>by
   rw [h] at q;exact bQ ok s1 rfl rfl q
  obtain ⟨d,tb⟩:=ok.tab;refine ⟨_,rfl,_,rfl,_,rfl,by show 3≤sizeLine;decide,oX (Z:=Z) (ns:=[a,b,to]) (by show 3≤100;decide) fun H1 s1=>?_⟩;have e1:([a,b,to].all fun c=>decide (0≤c∧c≤15))=(Rd18.isCol a&&(Rd18.isCol b&&Rd18.isCol to)):=by rw [bI,bI,bI];simp
  rw [e1];have ec:(Rd18.isCol a&&(Rd18.isCol b&&(Rd18.isCol to&&decide (n=(s.rows:Int)))))=((Rd18.isCol a&&(Rd18.isCol b&&Rd18.isCol to))&&decide (n=(s.rows:Int))):=by simp [Bool.and_assoc]
  rw [ec] at bad q;refine kJ (fun h1=>?_) (fun h1=>eO ⟨by show 1≤sizeLine;decide,bad (by rw [h1];rfl) H1 s1⟩);refine ⟨_,rfl,jN T (tb.same s1) rfl ⟨rfl,_,rfl,iA (fun h3=>⟨by show 1≤sizeLine;decide,bad (by rw [h1,decide_eq_false (fun e=>h3 (by rw [e]))];rfl) H1 s1⟩) (fun h3=>?_)⟩⟩;have EY:n=(s.rows:Int):=V.int.inj h3;rw [h1,decide_eq_true EY] at q;obtain ⟨DX,vS⟩:=Bool.and_eq_true_iff.mp h1;obtain ⟨vS,Jf⟩:=Bool.and_eq_true_iff.mp vS;obtain ⟨an,rfl,ha⟩:=dw DX;obtain ⟨bn,rfl,GQ⟩:=dw vS;obtain ⟨tn,rfl,Jd⟩:=dw Jf;refine ⟨_,rfl,_,rfl,_,rfl,by show 2≤sizeLine;decide,fun A hA=>?_⟩;have sA:aB H (upd H1 A (.lst [.int (an:Int),.int (bn:Int)])):=s1.trans (ax (aB.refl H1) hA);have sF:∀ c∈[an,bn],c < 16:=by intro c hc;rcases List.mem_cons.mp hc with rfl | hc;exact ha;rcases List.mem_cons.mp hc with rfl | hc;exact GQ;cases hc
  refine ⟨t,d,A,s,[an,bn],false,rfl,tb.same sA,bU.of au,by simp,by simp,sF,fun H2 s2=>?_⟩;have lQ:=sA.trans s2;have key:=sI (s:=s) an bn false (fun x y=>x.kind == y.kind) (fun x y=>(Rd18.set_ s (tn:Int) { x with cells:=qT s m x y },Rd18.just 0)) (fun x y=>by simp);refine ⟨_,rfl,rfl,_,rfl,iA (fun kW=>?_) (fun heq=>?_)⟩
  ·rcases key with ⟨h0,_⟩ | ⟨h0,he⟩
   ·exact absurd (by rw [h0]) kW
   ·have q':=he▸q;exact ⟨_,rfl,by show 1≤sizeLine;decide,bQ ok lQ rfl rfl q'⟩
  ·rcases key with ⟨h0,x,y,hx,hy,M2,GV,he⟩ | ⟨h0,he⟩
   ·have q':=he▸q;have wf:=tb.wf;have CA:=wf.rows;have wx:=wf.col an x hx;have Co:=wf.col bn y hy;refine lC T (tb.same lQ) ha hx rfl rfl fun qa VZ=>?_;refine lC T (tb.same lQ) GQ hy rfl rfl fun qb V0=>?_;refine jN T (tb.same lQ) rfl ⟨(s.rows:Int),rfl,by omega,by omega,fun D hD=>?_⟩;rw [Int.toNat_natCast];refine uy (n:=s.rows) (fun i=>some (d6 (if Rd18.bit m i=true then x.cells.getD i none else y.cells.getD i none))) hD (b8 (by omega)) (fun i H3 R R0 hi s3 hR h0=>?_) fun H3 s3 wq=>?_
    ·refine ⟨rfl,?_⟩;have Kv:=(lQ.trans s3).seq hS;have kP:=hR _ H3 (aB.refl _) rfl;refine eO (B:=R0 H3) ⟨_,rfl,_,rfl,l,m,i,rfl,Kv,AY hm EY CA hi,_,rfl,?_⟩;refine kJ (fun hb=>?_) (fun hb=>?_)
     ·rw [if_pos hb] at kP;exact ⟨_,rfl,_,rfl,qa,_,_,_,rfl,rfl,bU.of (s3 _ _ VZ),aI (sO (by rw [wx.len];exact hi)),kP⟩
     ·rw [if_neg (by rw [hb];decide)] at kP;exact ⟨_,rfl,_,rfl,qb,_,_,_,rfl,rfl,bU.of (s3 _ _ V0),aI (sO (by rw [Co.len];exact hi)),kP⟩
    ·have eB:(List.range s.rows).filterMap (fun i=>some (d6 (if Rd18.bit m i=true then x.cells.getD i none else y.cells.getD i none)))=cells (qT s m x y):=by
      rw [AZ];unfold qT cells;rw [List.map_map];rfl
     rw [eB] at wq;have KY:=lQ.trans s3;have g3:=Go.same ok.lam KY;refine gN ?_;dsimp only;refine sq (i5 T (k:=x.kind) (c:=tn) (tb.same KY) g3.ky Jd wq (Gz wx Co M2) rfl rfl rfl (fun R hR=>gH T (tb.same KY) ha hx rfl rfl hR) fun H6 Cn k6 JB=>⟨by show 1≤sizeLine;decide,?_⟩);exact m8 Cn k6 q' rfl rfl
   ·exact absurd (V.int.inj heq) h0
theorem yE {d':Addr} {H2:Hp} {s':Rd18.Abs} (ok:pd Z H t s) (s1:aB H H1) (Ry:TabAt Z H2 t d' s') (k:∀ b o,H1 b=some o→b≠t→H2 b=some o):Ky Z H H2:=by
 obtain ⟨⟨d,⟨dx,ht⟩,_,_⟩,lam⟩:=ok;have kt:=Jb (s1 _ _ ht) k;refine ⟨(aB.kp s1).trans kt.kp,(lam.keep (aB.M0 s1)).keep kt,fun p hp=>?_⟩;cases hx:H1 p with
 | none=>exact s1.free hx
 | some o =>
  by_cases e:p=t
  ·subst e;obtain ⟨⟨X6,PK⟩,_,_⟩:=Ry;rw [PK] at hp;cases hp
  ·rw [k p o hx e] at hp;cases hp
noncomputable abbrev t9 (Z:cg) (K:PySem.W.Frag):Sp:=fun vs H Q _=>∃ (t l:Addr) (s:Rd18.Abs) (n:Int) (m:List Nat),vs=[.ref t,.int n,.ref l]∧pd Z H t s∧bU K H l (aZ m)∧m.length=(Rd18Neutral.many n+7) / 8∧i9 Z t (Rd18.does s (.keep m n)) H Q
theorem zR (p:Nat→Bool):∀ l:List Nat,l.filterMap (fun i=>if p i=true then some (V.int (i:Int)) else none)=aZ (l.filter p)
 | []=>rfl
 | a::r=>by
  have ih:=zR p r;rw [List.filterMap_cons,List.filter_cons];split
  ·rename_i h;split at h
   ·cases h
   ·rename_i h2;rw [if_neg h2];exact ih
  ·rename_i v h;split at h
   ·rename_i h2;rw [if_pos h2];obtain rfl:=Option.some.inj h;show _::_=V.int (a:Int)::aZ (r.filter p);rw [ih]
   ·cases h
theorem A0 (T:Ty K mg Z) (iB:ae P w K mg base 3 "take_rows" ["table","which"] (ox Z K)) (i6:ae P w K mg base 1 "is_set" ["mask","row"] (qP Z K)) (D:aX K mg "keep_rows" mq ["table","n","mask"] f fd):ae P w K mg base 4 "keep_rows" ["table","n","mask"] (t9 Z K):=by
 refine ae.of D oH (fun vs H Q E h=>?_) (fun bJ A outer s H vs Q E hr h=>?_)
 ·obtain ⟨t,l,s,n,m,rfl,_⟩:=h;rfl
 ·obtain ⟨t,l,s,n,m,rfl,ok,hS,hm,q⟩:=h;refine ⟨_,(ai (aR (aG lY (pv 1) (aE (pv 0) rfl) (aJ _)) (aj (ao (aP (aa (aM T.bb) ag)))) aw)
   (ai (lX (ah iB (hr.mono (by decide)) (aa (pv 0) (aa (nz (own:=[("row",3)]) rfl oH.nd (qF (by rfl) T.oh (aa (aE (pv 0) rfl) ag)) (cq (N:=["table","n","mask","row"]) (sc:=ak mq) (by decide +kernel)) (fun _ _ _ _ _=>(bZ (i:=3) oH.nd rfl (by first | exact Or.inl rfl | exact Or.inr rfl))) (by intro _ _ _ _ _;exact (tz (aN (ah i6 (hr.mono (by decide)) (aa (pv 2) (aa (pv 3) ag)))))) (by intro _ _ _ _ _;exact (pv 3))) ag))))
   (aj (ao (aP (aa (aE (pv 0) rfl) ag)))))),?_⟩
  have dh:Rd18.does s (.keep m n)=if n=(s.rows:Int) then (Rd18.anew s ((List.range s.rows).filter (Rd18.bit m)),Rd18.just (((List.range s.rows).filter (Rd18.bit m)).length:Nat)) else (s,Rd18.just (-2)):=rfl
  rw [dh] at q;obtain ⟨d,tb⟩:=ok.tab;have CA:=tb.wf.rows;refine ⟨_,rfl,jN T tb rfl ⟨rfl,_,rfl,iA (fun h3=>?_) (fun h3=>?_)⟩⟩
  ·rw [if_neg (fun e=>h3 (by rw [e]))] at q;exact ⟨by show 1≤sizeLine;decide,bQ ok (aB.refl H) rfl rfl q⟩
  ·have EY:n=(s.rows:Int):=V.int.inj h3;rw [if_pos EY] at q;refine ⟨_,rfl,jN T tb rfl ⟨(s.rows:Int),rfl,by omega,by omega,fun D hD=>?_⟩⟩;rw [Int.toNat_natCast];refine uy (n:=s.rows) (fun i=>if Rd18.bit m i=true then some (V.int (i:Int)) else none) hD (b8 (by omega)) (fun i H3 R R0 hi s3 hR h0=>?_) fun H3 s3 wq=>?_
   ·refine ⟨rfl,?_⟩;refine ⟨_,rfl,_,rfl,l,m,i,rfl,s3.seq hS,AY hm EY CA hi,_,rfl,?_⟩;refine kJ (fun hb=>?_) (fun hb=>?_)
    ·exact ⟨_,rfl,hR _ H3 (aB.refl _) (if_pos hb)⟩
    ·exact h0 (if_neg (by rw [hb];decide)) H3 (aB.refl _)
   ·rw [zR] at wq;have hl:((List.range s.rows).filter (Rd18.bit m)).length≤2048:=Nat.le_trans (List.length_filter_le _ _) (by rw [List.length_range];exact CA);refine ⟨t,d,D,s,(List.range s.rows).filter (Rd18.bit m),rfl,tb.same s3,bU.of wq,hl,fun r hr=>?_,fun d' H4 M4 k4=>?_⟩
    ·exact List.mem_range.mp (List.mem_filter.mp hr).1
    ·refine jN T M4 rfl ⟨by show 1≤sizeLine;decide,?_⟩;exact m8 M4 (yE ok s3 M4 k4) q rfl rfl
noncomputable abbrev ua (Z:cg) (K:PySem.W.Frag):Sp:=fun vs H Q _=>∃ (t l:Addr) (s:Rd18.Abs) (ps:List Nat),vs=[.ref t,.ref l]∧pd Z H t s∧bU K H l (aZ ps)∧ps.length≤2048∧i9 Z t (Rd18.does s (.pick ps (ps.length:Int))) H Q
theorem A3 (T:Ty K mg Z) (iB:ae P w K mg base 3 "take_rows" ["table","which"] (ox Z K)) (D:aX K mg "pick_rows" mr ["table","which"] f fd):ae P w K mg base 4 "pick_rows" ["table","which"] (ua Z K):=by
 refine ae.of D oJ (fun vs H Q E h=>?_) (fun bJ A outer s H vs Q E hr h=>?_)
 ·obtain ⟨t,l,s,ps,rfl,_⟩:=h;rfl
 ·obtain ⟨t,l,s,ps,rfl,ok,hS,hl,q⟩:=h;refine ⟨_,(ai (aR (PW.pt (ku (aG Bu (bA b9 (by rfl) T.kz jh (aa (pv 1) ag)) (aM T.fo) (aJ _)) (hW (eU (aN (bA (Ae rfl) (by rfl) T.xD An (aa (nz (own:=[("row",2)]) rfl oJ.nd (dA (pv 1)) (cq (N:=["table","which","row"]) (sc:=ak mr) (by decide +kernel)) (fun _ _ _ _ _=>(bZ (i:=2) oJ.nd rfl (by first | exact Or.inl rfl | exact Or.inr rfl))) (by intro _ _ _ _ _;exact eA) (by intro _ _ _ _ _;exact (dM vj (pv 2) (jJ (K:=K) rfl (pv 0) rfl) (aJ _)))) ag))))))) (aj (ao (aP (aa (aM T.bb) ag)))) aw)
   (ai (lX (ah iB (hr.mono (by decide)) (aa (pv 0) (aa (pv 1) ag))))
   (aj (ao (aP (aa (aE (pv 0) rfl) ag)))))),?_⟩
  have dh:Rd18.does s (.pick ps (ps.length:Int))=if (ps.length:Int) < 0∨(Rd18.ROWS:Int) < (ps.length:Int)∨(ps.all fun i=>decide (i < s.rows))=false then (s,Rd18.just (-2)) else (Rd18.anew s ps,Rd18.just (ps.length:Int)):=rfl
  rw [dh] at q;obtain ⟨d,tb⟩:=ok.tab;have CA:=tb.wf.rows;have RN:(aZ ps).length=ps.length:=by rw [List.length_map]
  have V1:(Rd18.ROWS:Int)=2048:=rfl;refine ⟨_,rfl,l,_,rfl,.inl hS,_,_,rfl,rfl,_,rfl,lP (fun h=>by rw [RN] at h;omega) (fun _=>?_)⟩;refine ⟨_,rfl,l,rfl,⟨_,hS⟩,fun D hD=>d5 (fun v=>some (V.bl (decide (lA v < s.rows)))) hS hD (b8 (by rw [List.length_map];omega)) (fun i v H2 R R0 hx s2 hR h0=>?_) fun H2 s2 rP=>?_⟩
  ·obtain ⟨c,Nm,rfl⟩:=eE hx;refine ⟨rfl,?_⟩;have kP:=hR _ H2 (aB.refl _) rfl;refine eO (B:=R0 H2) ⟨_,rfl,jN T (tb.same s2) rfl ⟨_,_,rfl,rfl,?_⟩⟩;have e:decide (lA (V.int (c:Int)) < s.rows)=decide ((c:Int) < (s.rows:Int)):=decide_eq_decide.mpr (by show c < s.rows↔_;omega);rw [e] at kP;exact kP
  ·rw [kM ps (fun c=>decide (c < s.rows)) V.bl] at rP;refine ⟨D,ps.map fun c=>decide (c < s.rows),rfl,bU.of rP,_,rfl,?_⟩;have e:((ps.map fun c=>decide (c < s.rows)).all id)=ps.all fun c=>decide (c < s.rows):=by rw [List.all_map];rfl
   refine yz (fun h=>?_) (fun h=>?_)
   ·rw [e] at h;rw [if_pos (.inr (.inr h))] at q;exact ⟨by show 1≤sizeLine;decide,bQ ok s2 rfl rfl q⟩
   ·rw [e] at h;rw [if_neg (by rw [h,V1];intro z;rcases z with z | z | z;omega;omega;cases z)] at q;refine ⟨_,rfl,_,rfl,t,d,l,s,ps,rfl,tb.same s2,s2.seq hS,hl,fun r hr=>of_decide_eq_true (List.all_eq_true.mp h r hr),fun d' H4 M4 k4=>?_⟩;refine jN T M4 rfl ⟨by show 1≤sizeLine;decide,?_⟩;exact m8 M4 (yE ok s2 M4 k4) q rfl rfl
noncomputable abbrev rN (Z:cg) (_:PySem.W.Frag):Sp:=fun vs H Q _=>∃ (t:Addr) (s:Rd18.Abs),vs=[.ref t]∧pd Z H t s∧i9 Z t (Rd18.does s .told) H Q
theorem D5 (wf:Nl s):(List.range 16).map (fun c=>V.int (Rd18.kindOf (s.cols.getD c none):Nat))=aZ (s.cols.map Rd18.kindOf):=by
 have e:s.cols=(List.range 16).map fun c=>s.cols.getD c none:=by
  have:=gc s.cols none;rw [wf.len] at this;exact this
 conv=>rhs;rw [e]
 unfold aZ;rw [List.map_map,List.map_map];rfl
theorem ze (T:Ty K mg Z)  (D:aX K mg "tell_table" kK ["table"] f fd):ae P w K mg base 1 "tell_table" ["table"] (rN Z K):=by
 refine ae.of D mY (fun vs H Q E h=>?_) (fun bJ A outer s H vs Q E hr h=>?_)
 ·obtain ⟨t,s,rfl,_⟩:=h;rfl
 ·obtain ⟨t,s,rfl,ok,q⟩:=h;refine ⟨_,(ai (jT (i:=1) (own:=[("c",2)]) rfl mY.nd rfl rfl (l8 rfl rfl (by rfl) (by rfl)) (qF (by rfl) T.oh (aa (aT eh (aM T.gW) ar) ag)) (cq (N:=["table","kinds","c"]) (sc:=ak kK) (by decide +kernel)) (fun _ _ _ _ _=>(bZ (i:=2) mY.nd rfl (by first | exact Or.inl rfl | exact Or.inr rfl))) (by intro _ _ _ _ _;exact eA) (by intro _ _ _ _ _;exact (br (Hh (HP (cQ hr) (pv 2) (jJ (K:=K) rfl (pv 0) rfl))) (jJ (K:=K) rfl (cu (cQ hr) (jJ (K:=K) rfl (pv 0) rfl) (pv 2) (fun _ _=>rfl)) rfl) (aM T.mh))))
   (aj (ao (aT r8 (aP (aa (aM T.dB) (aa (aE (pv 0) rfl) ag))) (pv 1))))),?_⟩
  obtain ⟨d,tb⟩:=ok.tab;obtain ⟨⟨dx,ht⟩,⟨a8,hd,nX⟩,wf⟩:=id tb;refine ⟨_,_,rfl,rfl,(16:Int),rfl,by omega,by omega,fun D hD=>?_⟩;have V2:(16:Int).toNat=16:=rfl;rw [V2];refine uy (n:=16) (fun i=>some (V.int (Rd18.kindOf (s.cols.getD i none):Nat))) hD (b8 (by omega)) (fun i H3 R R0 hi s3 hR h0=>?_) fun H3 s3 wq=>?_
  ·refine ⟨rfl,?_⟩;have kP:=hR _ H3 (aB.refl _) rfl;refine eO (B:=R0 H3) ⟨_,rfl,_,rfl,t,Z.CT,dx,_,_,rfl,s3 _ _ ht,T.ud,T.nN,cA _ _,d,_,rfl,nB.k (k:=Sum.inl (i:Int)) (s3 _ _ hd),_,rfl,?_⟩;rw [(nX.val i hi).isSome];cases hx:s.cols.getD i none with
   | none=>rw [hx] at kP;exact ux kP
   | some x=>rw [hx] at kP;exact eO (gH T (tb.same s3) hi hx rfl rfl kP)
  ·rw [AZ,D5 wf] at wq;refine jN T (tb.same s3) rfl ⟨by show 2≤sizeLine;decide,fun A1 GU=>?_⟩;have sA:=ax (o:=.lst [.int 0,.int (s.rows:Int)]) (aB.refl H3) GU;refine ⟨_,rfl,A1,D,_,_,rfl,rfl,au,sA _ _ wq,b8 (by simp [wf.len]),fun p hp=>?_⟩;exact bQ ok (s3.trans sA) rfl rfl q p hp
end
end NK
set_option exponentiation.threshold 2000
namespace NK
open PySem L2
inductive yF:Int→List Int→List Nat→Rd18.Call→Prop
 | begin_ (a:Int):yF 0 [a] [] (.begin_ a)
 | put (a b:Int) (x:List Nat):x.length≤4000→(∀ v∈x,Vk b.toNat v)→yF 1 [a,b] x (.put a b x (x.length:Int))
 | get (a b c:Int):yF 2 [a,b,c] [] (.get a b c)
 | cast (a b c e:Int):yF 3 [a,b,c,e] [] (.cast a b c e)
 | whole (a b c e:Int):yF 4 [a,b,c,e] [] (.whole a b c e)
 | rest (a b c e:Int):yF 5 [a,b,c,e] [] (.rest a b c e)
 | split (a b c:Int):yF 6 [a,b,c] [] (.split a b c)
 | join (a b c:Int):yF 7 [a,b,c] [] (.join a b c)
 | op (a b c e:Int):yF 8 [a,b,c,e] [] (.op a b c e)
 | more (a b c e:Int):yF 9 [a,b,c,e] [] (.more a b c e)
 | compare (a b c e:Int):yF 10 [a,b,c,e] [] (.compare a b c e)
 | classes (a:Int):yF 11 [a] [] (.classes a)
 | sum (a:Int):yF 12 [a] [] (.sum a)
 | ends (a:Int):yF 13 [a] [] (.ends a)
 | blank (a b:Int) (x:List Nat):x.length=(Rd18Neutral.many b+7) / 8→yF 14 [a,b] x (.blank a x b)
 | choose (a b c e:Int) (x:List Nat):x.length=(Rd18Neutral.many c+7) / 8→yF 15 [a,b,c,e] x (.choose a b x c e)
 | keep (a:Int) (x:List Nat):x.length=(Rd18Neutral.many a+7) / 8→yF 16 [a] x (.keep x a)
 | pick (x:List Nat):x.length≤2048→yF 17 [] x (.pick x (x.length:Int))
 | told:yF 18 [] [] (.told)
noncomputable abbrev u7:Stmt:=top 167
theorem de:ay ["calls","table","told","at","call","start","given","listed","answer"] ["calls"] (ak u7):=⟨rfl,rfl,rfl,by decide +kernel,rfl,by decide +kernel,by decide +kernel⟩
noncomputable abbrev sP:Stmt:=top 168
theorem Cs:ay ["call"] ["call"] (ak sP):=⟨rfl,rfl,rfl,by decide +kernel,rfl,by decide +kernel,by decide +kernel⟩
noncomputable abbrev ql:Stmt:=top 169
theorem A4:ay ["table","call","given","listed"] ["table","call","given","listed"] (ak ql):=⟨rfl,rfl,rfl,by decide +kernel,rfl,by decide +kernel,by decide +kernel⟩
noncomputable abbrev gP:Stmt:=top 170
theorem qo:ay ["table","call","given","values"] ["table","call","given","values"] (ak gP):=⟨rfl,rfl,rfl,by decide +kernel,rfl,by decide +kernel,by decide +kernel⟩
noncomputable abbrev ij:Stmt:=top 171
theorem rj:ay ["table","call","given"] ["table","call","given"] (ak ij):=⟨rfl,rfl,rfl,by decide +kernel,rfl,by decide +kernel,by decide +kernel⟩
noncomputable abbrev gQ:Stmt:=top 172
theorem qp:ay ["table","call","given"] ["table","call","given"] (ak gQ):=⟨rfl,rfl,rfl,by decide +kernel,rfl,by decide +kernel,by decide +kernel⟩
noncomputable abbrev jy:Stmt:=top 173
theorem ub:ay ["table","call","given","listed"] ["table","call","given","listed"] (ak jy):=⟨rfl,rfl,rfl,by decide +kernel,rfl,by decide +kernel,by decide +kernel⟩
section
variable {P:Program} {w:World} {K:PySem.W.Frag} {mg:Str→Option Value} {base:Heap} {f:Addr} {fd:FuncData} {Z:cg} {H H1 H2:Hp} {Q:VK} {E:XK} {CF t d:Addr} {s:Rd18.Abs}
theorem lI {c A B:Prop} [Decidable c] (hc:c) (h:A):if decide c=true then A else B:=lP (fun _=>h) (fun n=>absurd hc n)
theorem cK {c A B:Prop} [Decidable c] (hc:¬ c) (h:B):if decide c=true then A else B:=lP (fun y=>absurd y hc) (fun _=>h)
noncomputable abbrev bw (l:List Int):List V:=l.map V.int
noncomputable abbrev vE (_:cg) (_:PySem.W.Frag):Sp:=fun vs H Q _=>∃ p:Int,vs=[.int p]∧∀ H',aB H H'→Q (.bl (decide (p=1∨p=14∨p=15∨p=16∨p=17))) H'
theorem Ct (T:Ty K mg Z)  (D:aX K mg "has_list" sP ["call"] f fd):ae P w K mg base 1 "has_list" ["call"] (vE Z K):=by
 refine ae.of D Cs (fun vs H Q E h=>?_) (fun bJ A outer s H vs Q E hr h=>?_)
 ·obtain ⟨p,rfl,_⟩:=h;rfl
 ·obtain ⟨p,rfl,q⟩:=h;refine ⟨_,(aj (ao (dM qH (pv 0) (z9 (aa (aM T.B8) (aa (aM T.tS) (aa (aM T.pW) (aa (aM T.xP) (aa (aM T.xQ) ag)))))) (by rfl)))),?_⟩;refine ⟨_,rfl,by show 5≤sizeLine;decide,fun A hA=>?_⟩;refine ⟨A,_,rfl,.inr (vi.of au),rfl,rfl,?_⟩;have e:FJ (V.int p) [V.int 1,V.int 14,V.int 15,V.int 16,V.int 17]=decide (p=1∨p=14∨p=15∨p=16∨p=17):=by
   have h:∀ k:Int,HE (V.int k) (V.int p)=decide (p=k):=fun k=>by
    show decide (k=p)=decide (p=k);exact decide_eq_decide.mpr ⟨Eq.symm,Eq.symm⟩
   unfold FJ;simp only [List.any_cons,List.any_nil,h,Bool.or_false,Bool.decide_or]
  have q':=q _ (ax (o:=.tup [V.int 1,V.int 14,V.int 15,V.int 16,V.int 17]) (aB.refl H) hA);rw [← e] at q';exact q'
noncomputable abbrev Cu (Z:cg) (K:PySem.W.Frag) (lo hi:Int) (four:Bool):Sp:=fun vs H Q _=>∃ (t ga la:Addr) (s:Rd18.Abs) (p:Int) (g:List Int) (x:List Nat) (c:Rd18.Call),vs=(if four=true then [.ref t,.int p,.ref ga,.ref la] else [.ref t,.int p,.ref ga])∧pd Z H t s∧bU K H ga (bw g)∧bU K H la (aZ x)∧lo≤p∧p≤hi∧yF p g x c∧i9 Z t (Rd18.does s c) H Q
noncomputable abbrev j2 (Z:cg) (K:PySem.W.Frag):Sp:=Cu Z K 0 2 true
noncomputable abbrev kC (Z:cg) (K:PySem.W.Frag):Sp:=Cu Z K 3 9 false
noncomputable abbrev j3 (Z:cg) (K:PySem.W.Frag):Sp:=Cu Z K 10 13 false
noncomputable abbrev mz (Z:cg) (K:PySem.W.Frag):Sp:=Cu Z K 14 18 true
noncomputable abbrev oM (Z:cg) (K:PySem.W.Frag):Sp:=Cu Z K 0 18 true
theorem qr (T:Ty K mg Z) (oN:ae P w K mg base 2 "get_column" ["table","c","kind","n"] (rK Z K)) (nh:ae P w K mg base 1 "begin_table" ["table","rows"] (p9 Z K)) (oO:ae P w K mg base 3 "put_column" ["table","c","kind","values"] (rJ Z K)) (D:aX K mg "answer_of_handing" gP ["table","call","given","values"] f fd):ae P w K mg base 4 "answer_of_handing" ["table","call","given","values"] (j2 Z K):=by
 refine ae.of D qo (fun vs H Q E h=>?_) (fun bJ A outer s H vs Q E hr h=>?_)
 ·obtain ⟨t,ga,la,s,p,g,x,c,rfl,_⟩:=h;rfl
 ·obtain ⟨t,ga,la,s,p,g,x,c,rfl,ok,hG,hX,Nu,OL,D,q⟩:=h;refine ⟨_,(ai (aR (aG bD (pv 1) (aM T.wu) (aJ _)) (aj (ao (ah nh (hr.mono (by decide)) (aa (pv 0) (aa (bu aU (pv 2) ar (fun _ _=>rfl)) ag))))) aw)
   (ai (aR (aG bD (pv 1) (aM T.B8) (aJ _)) (aj (ao (ah oO (hr.mono (by decide)) (aa (pv 0) (aa (bu aU (pv 2) ar (fun _ _=>rfl)) (aa (bu aU (pv 2) ar (fun _ _=>rfl)) (aa (pv 3) ag))))))) aw)
   (aj (ao (ah oN (hr.mono (by decide)) (aa (pv 0) (aa (bu aU (pv 2) ar (fun _ _=>rfl)) (aa (bu aU (pv 2) ar (fun _ _=>rfl)) (aa (bu aU (pv 2) ar (fun _ _=>rfl)) ag))))))))),?_⟩
  cases D with
  | begin_ a=>exact ⟨_,rfl,rfl,_,rfl,lI rfl ⟨_,rfl,_,rfl,ga,_,0,_,rfl,rfl,hG,aI (j:=0) rfl,t,s,a,rfl,ok,q⟩⟩
  | put a b x hl hv=>exact ⟨_,rfl,rfl,_,rfl,cK (by decide) ⟨_,rfl,rfl,_,rfl,lI rfl ⟨_,rfl,_,rfl,ga,_,0,_,rfl,rfl,hG,aI (j:=0) rfl,_,rfl,ga,_,1,_,rfl,rfl,hG,aI (j:=1) rfl,_,rfl,t,la,s,a,b,x,rfl,ok,hX,hl,hv,q⟩⟩⟩
  | get a b c=>exact ⟨_,rfl,rfl,_,rfl,cK (by decide) ⟨_,rfl,rfl,_,rfl,cK (by decide) ⟨_,rfl,_,rfl,ga,_,0,_,rfl,rfl,hG,aI (j:=0) rfl,_,rfl,ga,_,1,_,rfl,rfl,hG,aI (j:=1) rfl,_,rfl,ga,_,2,_,rfl,rfl,hG,aI (j:=2) rfl,t,s,a,b,c,rfl,ok,q⟩⟩⟩
  | cast a b c e=>omega
  | whole a b c e=>omega
  | rest a b c e=>omega
  | split a b c=>omega
  | join a b c=>omega
  | op a b c e=>omega
  | more a b c e=>omega
  | compare a b c e=>omega
  | classes a=>omega
  | sum a=>omega
  | ends a=>omega
  | blank a b x hm=>omega
  | choose a b c e x hm=>omega
  | keep a x hm=>omega
  | pick  x hl=>omega
  | told =>omega
theorem rk (T:Ty K mg Z) (lJ:ae P w K mg base 16 "more_columns" ["table","a","b","c","to"] (o4 Z K)) (ni:ae P w K mg base 16 "cast_column" ["table","source","to","kind","way"] (qe Z K)) (lK:ae P w K mg base 17 "whole_column" ["table","source","to","way","parts"] (oY Z K)) (nj:ae P w K mg base 17 "rest_column" ["table","source","to","way","parts"] (qg Z K)) (lL:ae P w K mg base 16 "split_column" ["table","source","power","part"] (o1 Z K)) (lM:ae P w K mg base 16 "join_columns" ["table","part","power","to"] (o2 Z K)) (oP:ae P w K mg base 16 "do_columns" ["table","op","a","b","to"] (rM Z K)) (D:aX K mg "answer_of_making" ij ["table","call","given"] f fd):ae P w K mg base 18 "answer_of_making" ["table","call","given"] (kC Z K):=by
 refine ae.of D rj (fun vs H Q E h=>?_) (fun bJ A outer s H vs Q E hr h=>?_)
 ·obtain ⟨t,ga,la,s,p,g,x,c,rfl,_⟩:=h;rfl
 ·obtain ⟨t,ga,la,s,p,g,x,c,rfl,ok,hG,hX,Nu,OL,D,q⟩:=h;refine ⟨_,(ai (aR (aG bD (pv 1) (aM T.Az) (aJ _)) (aj (ao (ah ni (hr.mono (by decide)) (aa (pv 0) (aa (bu aU (pv 2) ar (fun _ _=>rfl)) (aa (bu aU (pv 2) ar (fun _ _=>rfl)) (aa (bu aU (pv 2) ar (fun _ _=>rfl)) (aa (bu aU (pv 2) ar (fun _ _=>rfl)) ag)))))))) aw)
   (ai (aR (aG bD (pv 1) (aM T.wA) (aJ _)) (aj (ao (ah lK (hr.mono (by decide)) (aa (pv 0) (aa (bu aU (pv 2) ar (fun _ _=>rfl)) (aa (bu aU (pv 2) ar (fun _ _=>rfl)) (aa (bu aU (pv 2) ar (fun _ _=>rfl)) (aa (bu aU (pv 2) ar (fun _ _=>rfl)) ag)))))))) aw)
   (ai (aR (aG bD (pv 1) (aM T.AA) (aJ _)) (aj (ao (ah nj (hr.mono (by decide)) (aa (pv 0) (aa (bu aU (pv 2) ar (fun _ _=>rfl)) (aa (bu aU (pv 2) ar (fun _ _=>rfl)) (aa (bu aU (pv 2) ar (fun _ _=>rfl)) (aa (bu aU (pv 2) ar (fun _ _=>rfl)) ag)))))))) aw)
   (ai (aR (aG bD (pv 1) (aM T.wB) (aJ _)) (aj (ao (ah lL (hr.mono (by decide)) (aa (pv 0) (aa (bu aU (pv 2) ar (fun _ _=>rfl)) (aa (bu aU (pv 2) ar (fun _ _=>rfl)) (aa (bu aU (pv 2) ar (fun _ _=>rfl)) ag))))))) aw)
   (ai (aR (aG bD (pv 1) (aM T.AB) (aJ _)) (aj (ao (ah lM (hr.mono (by decide)) (aa (pv 0) (aa (bu aU (pv 2) ar (fun _ _=>rfl)) (aa (bu aU (pv 2) ar (fun _ _=>rfl)) (aa (bu aU (pv 2) ar (fun _ _=>rfl)) ag))))))) aw)
   (ai (aR (aG bD (pv 1) (aM T.KD) (aJ _)) (aj (ao (ah oP (hr.mono (by decide)) (aa (pv 0) (aa (bu aU (pv 2) ar (fun _ _=>rfl)) (aa (bu aU (pv 2) ar (fun _ _=>rfl)) (aa (bu aU (pv 2) ar (fun _ _=>rfl)) (aa (bu aU (pv 2) ar (fun _ _=>rfl)) ag)))))))) aw)
   (aj (ao (ah lJ (hr.mono (by decide)) (aa (pv 0) (aa (bu aU (pv 2) ar (fun _ _=>rfl)) (aa (bu aU (pv 2) ar (fun _ _=>rfl)) (aa (bu aU (pv 2) ar (fun _ _=>rfl)) (aa (bu aU (pv 2) ar (fun _ _=>rfl)) ag)))))))))))))),?_⟩
  cases D with
  | begin_ a=>omega
  | put a b x hl hv=>omega
  | get a b c=>omega
  | cast a b c e=>exact ⟨_,rfl,rfl,_,rfl,lI rfl ⟨_,rfl,_,rfl,ga,_,0,_,rfl,rfl,hG,aI (j:=0) rfl,_,rfl,ga,_,1,_,rfl,rfl,hG,aI (j:=1) rfl,_,rfl,ga,_,2,_,rfl,rfl,hG,aI (j:=2) rfl,_,rfl,ga,_,3,_,rfl,rfl,hG,aI (j:=3) rfl,t,s,a,b,c,e,rfl,ok,q⟩⟩
  | whole a b c e=>exact ⟨_,rfl,rfl,_,rfl,cK (by decide) ⟨_,rfl,rfl,_,rfl,lI rfl ⟨_,rfl,_,rfl,ga,_,0,_,rfl,rfl,hG,aI (j:=0) rfl,_,rfl,ga,_,1,_,rfl,rfl,hG,aI (j:=1) rfl,_,rfl,ga,_,2,_,rfl,rfl,hG,aI (j:=2) rfl,_,rfl,ga,_,3,_,rfl,rfl,hG,aI (j:=3) rfl,t,s,a,b,c,e,rfl,ok,q⟩⟩⟩
  | rest a b c e=>exact ⟨_,rfl,rfl,_,rfl,cK (by decide) ⟨_,rfl,rfl,_,rfl,cK (by decide) ⟨_,rfl,rfl,_,rfl,lI rfl ⟨_,rfl,_,rfl,ga,_,0,_,rfl,rfl,hG,aI (j:=0) rfl,_,rfl,ga,_,1,_,rfl,rfl,hG,aI (j:=1) rfl,_,rfl,ga,_,2,_,rfl,rfl,hG,aI (j:=2) rfl,_,rfl,ga,_,3,_,rfl,rfl,hG,aI (j:=3) rfl,t,s,a,b,c,e,rfl,ok,q⟩⟩⟩⟩
  | split a b c=>exact ⟨_,rfl,rfl,_,rfl,cK (by decide) ⟨_,rfl,rfl,_,rfl,cK (by decide) ⟨_,rfl,rfl,_,rfl,cK (by decide) ⟨_,rfl,rfl,_,rfl,lI rfl ⟨_,rfl,_,rfl,ga,_,0,_,rfl,rfl,hG,aI (j:=0) rfl,_,rfl,ga,_,1,_,rfl,rfl,hG,aI (j:=1) rfl,_,rfl,ga,_,2,_,rfl,rfl,hG,aI (j:=2) rfl,t,s,a,b,c,rfl,ok,q⟩⟩⟩⟩⟩
  | join a b c=>exact ⟨_,rfl,rfl,_,rfl,cK (by decide) ⟨_,rfl,rfl,_,rfl,cK (by decide) ⟨_,rfl,rfl,_,rfl,cK (by decide) ⟨_,rfl,rfl,_,rfl,cK (by decide) ⟨_,rfl,rfl,_,rfl,lI rfl ⟨_,rfl,_,rfl,ga,_,0,_,rfl,rfl,hG,aI (j:=0) rfl,_,rfl,ga,_,1,_,rfl,rfl,hG,aI (j:=1) rfl,_,rfl,ga,_,2,_,rfl,rfl,hG,aI (j:=2) rfl,t,s,a,b,c,rfl,ok,q⟩⟩⟩⟩⟩⟩
  | op a b c e=>exact ⟨_,rfl,rfl,_,rfl,cK (by decide) ⟨_,rfl,rfl,_,rfl,cK (by decide) ⟨_,rfl,rfl,_,rfl,cK (by decide) ⟨_,rfl,rfl,_,rfl,cK (by decide) ⟨_,rfl,rfl,_,rfl,cK (by decide) ⟨_,rfl,rfl,_,rfl,lI rfl ⟨_,rfl,_,rfl,ga,_,0,_,rfl,rfl,hG,aI (j:=0) rfl,_,rfl,ga,_,1,_,rfl,rfl,hG,aI (j:=1) rfl,_,rfl,ga,_,2,_,rfl,rfl,hG,aI (j:=2) rfl,_,rfl,ga,_,3,_,rfl,rfl,hG,aI (j:=3) rfl,t,s,a,b,c,e,rfl,ok,q⟩⟩⟩⟩⟩⟩⟩
  | more a b c e=>exact ⟨_,rfl,rfl,_,rfl,cK (by decide) ⟨_,rfl,rfl,_,rfl,cK (by decide) ⟨_,rfl,rfl,_,rfl,cK (by decide) ⟨_,rfl,rfl,_,rfl,cK (by decide) ⟨_,rfl,rfl,_,rfl,cK (by decide) ⟨_,rfl,rfl,_,rfl,cK (by decide) ⟨_,rfl,_,rfl,ga,_,0,_,rfl,rfl,hG,aI (j:=0) rfl,_,rfl,ga,_,1,_,rfl,rfl,hG,aI (j:=1) rfl,_,rfl,ga,_,2,_,rfl,rfl,hG,aI (j:=2) rfl,_,rfl,ga,_,3,_,rfl,rfl,hG,aI (j:=3) rfl,t,s,a,b,c,e,rfl,ok,q⟩⟩⟩⟩⟩⟩⟩
  | compare a b c e=>omega
  | classes a=>omega
  | sum a=>omega
  | ends a=>omega
  | blank a b x hm=>omega
  | choose a b c e x hm=>omega
  | keep a x hm=>omega
  | pick  x hl=>omega
  | told =>omega
theorem qt (T:Ty K mg Z) (jz:ae P w K mg base 9 "ends_of_column" ["table","c"] (mx Z K)) (i7:ae P w K mg base 16 "compare_columns" ["table","op","a","b","n"] (lF Z K)) (gR:ae P w K mg base 7 "classes_of_column" ["table","c"] (j1 Z K)) (kq:ae P w K mg base 7 "sum_of_column" ["table","c"] (nT Z K)) (D:aX K mg "answer_of_looking" gQ ["table","call","given"] f fd):ae P w K mg base 17 "answer_of_looking" ["table","call","given"] (j3 Z K):=by
 refine ae.of D qp (fun vs H Q E h=>?_) (fun bJ A outer s H vs Q E hr h=>?_)
 ·obtain ⟨t,ga,la,s,p,g,x,c,rfl,_⟩:=h;rfl
 ·obtain ⟨t,ga,la,s,p,g,x,c,rfl,ok,hG,hX,Nu,OL,D,q⟩:=h;refine ⟨_,(ai (aR (aG bD (pv 1) (aM T.qL) (aJ _)) (aj (ao (ah i7 (hr.mono (by decide)) (aa (pv 0) (aa (bu aU (pv 2) ar (fun _ _=>rfl)) (aa (bu aU (pv 2) ar (fun _ _=>rfl)) (aa (bu aU (pv 2) ar (fun _ _=>rfl)) (aa (bu aU (pv 2) ar (fun _ _=>rfl)) ag)))))))) aw)
   (ai (aR (aG bD (pv 1) (aM T.g6) (aJ _)) (aj (ao (ah gR (hr.mono (by decide)) (aa (pv 0) (aa (bu aU (pv 2) ar (fun _ _=>rfl)) ag))))) aw)
   (ai (aR (aG bD (pv 1) (aM T.mi) (aJ _)) (aj (ao (ah kq (hr.mono (by decide)) (aa (pv 0) (aa (bu aU (pv 2) ar (fun _ _=>rfl)) ag))))) aw)
   (aj (ao (ah jz (hr.mono (by decide)) (aa (pv 0) (aa (bu aU (pv 2) ar (fun _ _=>rfl)) ag)))))))),?_⟩
  cases D with
  | begin_ a=>omega
  | put a b x hl hv=>omega
  | get a b c=>omega
  | cast a b c e=>omega
  | whole a b c e=>omega
  | rest a b c e=>omega
  | split a b c=>omega
  | join a b c=>omega
  | op a b c e=>omega
  | more a b c e=>omega
  | compare a b c e=>exact ⟨_,rfl,rfl,_,rfl,lI rfl ⟨_,rfl,_,rfl,ga,_,0,_,rfl,rfl,hG,aI (j:=0) rfl,_,rfl,ga,_,1,_,rfl,rfl,hG,aI (j:=1) rfl,_,rfl,ga,_,2,_,rfl,rfl,hG,aI (j:=2) rfl,_,rfl,ga,_,3,_,rfl,rfl,hG,aI (j:=3) rfl,t,s,a,b,c,e,rfl,ok,q⟩⟩
  | classes a=>exact ⟨_,rfl,rfl,_,rfl,cK (by decide) ⟨_,rfl,rfl,_,rfl,lI rfl ⟨_,rfl,_,rfl,ga,_,0,_,rfl,rfl,hG,aI (j:=0) rfl,t,s,a,rfl,ok,q⟩⟩⟩
  | sum a=>exact ⟨_,rfl,rfl,_,rfl,cK (by decide) ⟨_,rfl,rfl,_,rfl,cK (by decide) ⟨_,rfl,rfl,_,rfl,lI rfl ⟨_,rfl,_,rfl,ga,_,0,_,rfl,rfl,hG,aI (j:=0) rfl,t,s,a,rfl,ok,q⟩⟩⟩⟩
  | ends a=>exact ⟨_,rfl,rfl,_,rfl,cK (by decide) ⟨_,rfl,rfl,_,rfl,cK (by decide) ⟨_,rfl,rfl,_,rfl,cK (by decide) ⟨_,rfl,_,rfl,ga,_,0,_,rfl,rfl,hG,aI (j:=0) rfl,t,s,a,rfl,ok,q⟩⟩⟩⟩
  | blank a b x hm=>omega
  | choose a b c e x hm=>omega
  | keep a x hm=>omega
  | pick  x hl=>omega
  | told =>omega
theorem uc (T:Ty K mg Z) (oQ:ae P w K mg base 1 "tell_table" ["table"] (rN Z K)) (lN:ae P w K mg base 3 "blank_column" ["table","c","n","mask"] (o5 Z K)) (jA:ae P w K mg base 3 "choose_columns" ["table","a","b","n","to","mask"] (my Z K)) (qu:ae P w K mg base 4 "keep_rows" ["table","n","mask"] (t9 Z K)) (qv:ae P w K mg base 4 "pick_rows" ["table","which"] (ua Z K)) (D:aX K mg "answer_of_rows" jy ["table","call","given","listed"] f fd):ae P w K mg base 5 "answer_of_rows" ["table","call","given","listed"] (mz Z K):=by
 refine ae.of D ub (fun vs H Q E h=>?_) (fun bJ A outer s H vs Q E hr h=>?_)
 ·obtain ⟨t,ga,la,s,p,g,x,c,rfl,_⟩:=h;rfl
 ·obtain ⟨t,ga,la,s,p,g,x,c,rfl,ok,hG,hX,Nu,OL,D,q⟩:=h;refine ⟨_,(ai (aR (aG bD (pv 1) (aM T.tS) (aJ _)) (aj (ao (ah lN (hr.mono (by decide)) (aa (pv 0) (aa (bu aU (pv 2) ar (fun _ _=>rfl)) (aa (bu aU (pv 2) ar (fun _ _=>rfl)) (aa (pv 3) ag))))))) aw)
   (ai (aR (aG bD (pv 1) (aM T.pW) (aJ _)) (aj (ao (ah jA (hr.mono (by decide)) (aa (pv 0) (aa (bu aU (pv 2) ar (fun _ _=>rfl)) (aa (bu aU (pv 2) ar (fun _ _=>rfl)) (aa (bu aU (pv 2) ar (fun _ _=>rfl)) (aa (bu aU (pv 2) ar (fun _ _=>rfl)) (aa (pv 3) ag))))))))) aw)
   (ai (aR (aG bD (pv 1) (aM T.xP) (aJ _)) (aj (ao (ah qu (hr.mono (by decide)) (aa (pv 0) (aa (bu aU (pv 2) ar (fun _ _=>rfl)) (aa (pv 3) ag)))))) aw)
   (ai (aR (aG bD (pv 1) (aM T.xQ) (aJ _)) (aj (ao (ah qv (hr.mono (by decide)) (aa (pv 0) (aa (pv 3) ag))))) aw)
   (aj (ao (ah oQ (hr.mono (by decide)) (aa (pv 0) ag)))))))),?_⟩
  cases D with
  | begin_ a=>omega
  | put a b x hl hv=>omega
  | get a b c=>omega
  | cast a b c e=>omega
  | whole a b c e=>omega
  | rest a b c e=>omega
  | split a b c=>omega
  | join a b c=>omega
  | op a b c e=>omega
  | more a b c e=>omega
  | compare a b c e=>omega
  | classes a=>omega
  | sum a=>omega
  | ends a=>omega
  | blank a b x hm=>exact ⟨_,rfl,rfl,_,rfl,lI rfl ⟨_,rfl,_,rfl,ga,_,0,_,rfl,rfl,hG,aI (j:=0) rfl,_,rfl,ga,_,1,_,rfl,rfl,hG,aI (j:=1) rfl,_,rfl,t,la,s,a,b,x,rfl,ok,hX,hm,q⟩⟩
  | choose a b c e x hm=>exact ⟨_,rfl,rfl,_,rfl,cK (by decide) ⟨_,rfl,rfl,_,rfl,lI rfl ⟨_,rfl,_,rfl,ga,_,0,_,rfl,rfl,hG,aI (j:=0) rfl,_,rfl,ga,_,1,_,rfl,rfl,hG,aI (j:=1) rfl,_,rfl,ga,_,2,_,rfl,rfl,hG,aI (j:=2) rfl,_,rfl,ga,_,3,_,rfl,rfl,hG,aI (j:=3) rfl,_,rfl,t,la,s,a,b,c,e,x,rfl,ok,hX,hm,q⟩⟩⟩
  | keep a x hm=>exact ⟨_,rfl,rfl,_,rfl,cK (by decide) ⟨_,rfl,rfl,_,rfl,cK (by decide) ⟨_,rfl,rfl,_,rfl,lI rfl ⟨_,rfl,_,rfl,ga,_,0,_,rfl,rfl,hG,aI (j:=0) rfl,_,rfl,t,la,s,a,x,rfl,ok,hX,hm,q⟩⟩⟩⟩
  | pick  x hl=>exact ⟨_,rfl,rfl,_,rfl,cK (by decide) ⟨_,rfl,rfl,_,rfl,cK (by decide) ⟨_,rfl,rfl,_,rfl,cK (by decide) ⟨_,rfl,rfl,_,rfl,lI rfl ⟨_,rfl,_,rfl,t,la,s,x,rfl,ok,hX,hl,q⟩⟩⟩⟩⟩
  | told =>exact ⟨_,rfl,rfl,_,rfl,cK (by decide) ⟨_,rfl,rfl,_,rfl,cK (by decide) ⟨_,rfl,rfl,_,rfl,cK (by decide) ⟨_,rfl,rfl,_,rfl,cK (by decide) ⟨_,rfl,t,s,rfl,ok,q⟩⟩⟩⟩⟩
theorem A5 (T:Ty K mg Z) (jB:ae P w K mg base 5 "answer_of_rows" ["table","call","given","listed"] (mz Z K)) (gT:ae P w K mg base 4 "answer_of_handing" ["table","call","given","values"] (j2 Z K)) (ik:ae P w K mg base 18 "answer_of_making" ["table","call","given"] (kC Z K)) (gU:ae P w K mg base 17 "answer_of_looking" ["table","call","given"] (j3 Z K)) (D:aX K mg "answer_of" ql ["table","call","given","listed"] f fd):ae P w K mg base 19 "answer_of" ["table","call","given","listed"] (oM Z K):=by
 refine ae.of D A4 (fun vs H Q E h=>?_) (fun bJ A outer s H vs Q E hr h=>?_)
 ·obtain ⟨t,ga,la,s,p,g,x,c,rfl,_⟩:=h;rfl
 ·obtain ⟨t,ga,la,s,p,g,x,c,rfl,ok,hG,hX,Nu,OL,D,q⟩:=h;refine ⟨_,(ai (aR (aG gK (pv 1) (aM T.EN) (aJ _)) (aj (ao (ah gT (hr.mono (by decide)) (aa (pv 0) (aa (pv 1) (aa (pv 2) (aa (pv 3) ag))))))) aw)
   (ai (aR (aG gK (pv 1) (aM T.AD) (aJ _)) (aj (ao (ah ik (hr.mono (by decide)) (aa (pv 0) (aa (pv 1) (aa (pv 2) ag)))))) aw)
   (ai (aR (aG gK (pv 1) (aM T.AE) (aJ _)) (aj (ao (ah gU (hr.mono (by decide)) (aa (pv 0) (aa (pv 1) (aa (pv 2) ag)))))) aw)
   (aj (ao (ah jB (hr.mono (by decide)) (aa (pv 0) (aa (pv 1) (aa (pv 2) (aa (pv 3) ag)))))))))),?_⟩
  refine ⟨_,rfl,_,_,rfl,rfl,_,rfl,lP (fun h1=>?_) (fun h1=>?_)⟩
  ·exact ⟨_,rfl,_,rfl,_,rfl,_,rfl,t,ga,la,s,p,g,x,c,rfl,ok,hG,hX,Nu,h1,D,q⟩
  refine ⟨_,rfl,_,_,rfl,rfl,_,rfl,lP (fun h2=>?_) (fun h2=>?_)⟩
  ·exact ⟨_,rfl,_,rfl,_,rfl,t,ga,la,s,p,g,x,c,rfl,ok,hG,hX,by omega,h2,D,q⟩
  refine ⟨_,rfl,_,_,rfl,rfl,_,rfl,lP (fun h3=>?_) (fun h3=>?_)⟩
  ·exact ⟨_,rfl,_,rfl,_,rfl,t,ga,la,s,p,g,x,c,rfl,ok,hG,hX,by omega,h3,D,q⟩
  exact ⟨_,rfl,_,rfl,_,rfl,_,rfl,t,ga,la,s,p,g,x,c,rfl,ok,hG,hX,by omega,OL,D,q⟩
end
end NK
set_option exponentiation.threshold 2000
namespace NK
open PySem L2
theorem nV {x:List Int} (h:∀ z∈x,0≤z):x=(Rd18Neutral.natsOf x).map fun (n:Nat)=>(n:Int):=by
 unfold Rd18Neutral.natsOf;rw [List.map_map];refine (List.map_id x).symm.trans (List.map_congr_left fun z hz=>?_);have:=h z hz;show z=((z.toNat:Nat):Int);omega
theorem E6 (n:Int):Rd18Neutral.many n≤2048:=by unfold Rd18Neutral.many;split <;> omega
theorem qw (x:List Int):(Rd18Neutral.natsOf x).length=x.length:=by unfold Rd18Neutral.natsOf;rw [List.length_map]
theorem sQ {z:Int} {b:Nat} (h:Rd18Neutral.natural z b=true):0≤z∧z < 2 ^ b:=by
 unfold Rd18Neutral.natural at h;simpa using h
theorem D6 {b:Int} (h0:0≤b) (h8:b≤8):Rd18Neutral.wide b=Rd18.width b.toNat:=by
 obtain ⟨m,rfl⟩:=Int.eq_ofNat_of_zero_le h0;exact (by decide +kernel:∀ m:Nat,m < 9→Rd18Neutral.wide (m:Int)=Rd18.width m) m (by omega)
theorem GA {x:List Int} {b:Int} (h:Rd18Neutral.values x (x.length:Int) b=true):(∀ z∈x,0≤z)∧x.length≤4000∧∀ v∈Rd18Neutral.natsOf x,Vk b.toNat v:=by
 unfold Rd18Neutral.values at h;rw [Bool.and_eq_true,decide_eq_true_eq,List.all_eq_true] at h;obtain ⟨h1,h2⟩:=h;have nn:∀ z∈x,0≤z:=fun z hz=>(sQ (h1 z hz)).1;refine ⟨nn,?_,fun v hv=>?_⟩
 ·have:=E6 (x.length:Int);split at h2 <;> omega
 ·unfold Rd18Neutral.natsOf at hv;obtain ⟨z,hz,rfl⟩:=List.mem_map.mp hv;have hb:0≤b∧b≤8:=by
   by_cases hb:0≤b∧b≤8
   ·exact hb
   ·rw [if_neg hb] at h2;rw [List.length_eq_zero_iff.mp h2] at hz;cases hz
  obtain ⟨n1,n2⟩:=sQ (h1 z hz);rw [D6 hb.1 hb.2] at n2;unfold Vk;have e:((2 ^ Rd18.width b.toNat:Nat):Int)=2 ^ Rd18.width b.toNat:=by simp
  omega
theorem A6 {x:List Int} {n:Int} (h:Rd18Neutral.mask x n=true):(∀ z∈x,0≤z)∧(Rd18Neutral.natsOf x).length=(Rd18Neutral.many n+7) / 8:=by
 unfold Rd18Neutral.mask at h;rw [Bool.and_eq_true,decide_eq_true_eq] at h;refine ⟨fun z hz=>?_,by rw [qw];exact h.2⟩;have h1:=h.1;unfold NeutralIO.bytes at h1;rw [List.all_eq_true] at h1;have:=h1 z hz;simp at this;omega
noncomputable abbrev mB (s:Rd18.Abs) (c:Rd18.Call):Rd18.Abs×List Int:=((Rd18.does s c).1,(Rd18.does s c).2.value::(Rd18.does s c).2.out.map fun (b:Nat)=>(b:Int))
theorem l0 {g:List Int} (h:0=g.length):g=[]:=List.length_eq_zero_iff.mp h.symm
theorem l1 {g:List Int} (h:1=g.length):∃ a,g=[a]:=by
 match g,h with
 | [a],_=>exact ⟨a,rfl⟩
theorem l2 {g:List Int} (h:2=g.length):∃ a b,g=[a,b]:=by
 match g,h with
 | [a,b],_=>exact ⟨a,b,rfl⟩
theorem l3 {g:List Int} (h:3=g.length):∃ a b c,g=[a,b,c]:=by
 match g,h with
 | [a,b,c],_=>exact ⟨a,b,c,rfl⟩
theorem l4 {g:List Int} (h:4=g.length):∃ a b c d,g=[a,b,c,d]:=by
 match g,h with
 | [a,b,c,d],_=>exact ⟨a,b,c,d,rfl⟩
theorem M5 {p:Int} {g x:List Int} {k:Nat} (hs:PyRd18.shape p=some (g.length,k)) (hx:k=0→x=[]) (ha:zX p g x=true) (s:Rd18.Abs) :
  ∃ (xn:List Nat) (c:Rd18.Call),x=(xn.map fun (n:Nat)=>(n:Int))∧yF p g xn c∧zm s p g x=mB s c:=by
 obtain ⟨h0,X7,_⟩:=rV hs;have hp:p=0∨p=1∨p=2∨p=3∨p=4∨p=5∨p=6∨p=7∨p=8∨p=9∨p=10∨p=11∨p=12∨p=13∨p=14∨p=15∨p=16∨p=17∨p=18:=by
  obtain ⟨m,rfl⟩:=Int.eq_ofNat_of_zero_le h0;exact (by decide +kernel:∀ m:Nat,m < 19→((m:Int)=0∨(m:Int)=1∨(m:Int)=2∨(m:Int)=3∨(m:Int)=4∨(m:Int)=5∨(m:Int)=6∨(m:Int)=7∨(m:Int)=8∨(m:Int)=9∨(m:Int)=10∨(m:Int)=11∨(m:Int)=12∨(m:Int)=13∨(m:Int)=14∨(m:Int)=15∨(m:Int)=16∨(m:Int)=17∨(m:Int)=18)) m (by omega)
 rcases hp with rfl | rfl | rfl | rfl | rfl | rfl | rfl | rfl | rfl | rfl | rfl | rfl | rfl | rfl | rfl | rfl | rfl | rfl | rfl
 ·obtain ⟨e1,e2⟩:=Prod.mk.inj (Option.some.inj hs);obtain rfl:=hx e2.symm;obtain ⟨a,rfl⟩:=l1 e1;exact ⟨[],_,rfl,.begin_ a,rfl⟩
 ·obtain ⟨e1,e2⟩:=Prod.mk.inj (Option.some.inj hs);obtain ⟨a,b,rfl⟩:=l2 e1;have ha:(Rd18Neutral.four a b (x.length:Int) 0&&Rd18Neutral.values x (x.length:Int) b)=true:=ha;obtain ⟨v1,v2,v3⟩:=GA (Bool.and_eq_true_iff.mp ha).2;refine ⟨Rd18Neutral.natsOf x,_,nV v1,.put a b _ (by rw [qw];exact v2) v3,?_⟩;show mB s (.put a b (Rd18Neutral.natsOf x) (x.length:Int))=_;rw [qw]
 ·obtain ⟨e1,e2⟩:=Prod.mk.inj (Option.some.inj hs);obtain rfl:=hx e2.symm;obtain ⟨a,b,c,rfl⟩:=l3 e1;exact ⟨[],_,rfl,.get a b c,rfl⟩
 ·obtain ⟨e1,e2⟩:=Prod.mk.inj (Option.some.inj hs);obtain rfl:=hx e2.symm;obtain ⟨a,b,c,d,rfl⟩:=l4 e1;exact ⟨[],_,rfl,.cast a b c d,rfl⟩
 ·obtain ⟨e1,e2⟩:=Prod.mk.inj (Option.some.inj hs);obtain rfl:=hx e2.symm;obtain ⟨a,b,c,d,rfl⟩:=l4 e1;exact ⟨[],_,rfl,.whole a b c d,rfl⟩
 ·obtain ⟨e1,e2⟩:=Prod.mk.inj (Option.some.inj hs);obtain rfl:=hx e2.symm;obtain ⟨a,b,c,d,rfl⟩:=l4 e1;exact ⟨[],_,rfl,.rest a b c d,rfl⟩
 ·obtain ⟨e1,e2⟩:=Prod.mk.inj (Option.some.inj hs);obtain rfl:=hx e2.symm;obtain ⟨a,b,c,rfl⟩:=l3 e1;exact ⟨[],_,rfl,.split a b c,rfl⟩
 ·obtain ⟨e1,e2⟩:=Prod.mk.inj (Option.some.inj hs);obtain rfl:=hx e2.symm;obtain ⟨a,b,c,rfl⟩:=l3 e1;exact ⟨[],_,rfl,.join a b c,rfl⟩
 ·obtain ⟨e1,e2⟩:=Prod.mk.inj (Option.some.inj hs);obtain rfl:=hx e2.symm;obtain ⟨a,b,c,d,rfl⟩:=l4 e1;exact ⟨[],_,rfl,.op a b c d,rfl⟩
 ·obtain ⟨e1,e2⟩:=Prod.mk.inj (Option.some.inj hs);obtain rfl:=hx e2.symm;obtain ⟨a,b,c,d,rfl⟩:=l4 e1;exact ⟨[],_,rfl,.more a b c d,rfl⟩
 ·obtain ⟨e1,e2⟩:=Prod.mk.inj (Option.some.inj hs);obtain rfl:=hx e2.symm;obtain ⟨a,b,c,d,rfl⟩:=l4 e1;exact ⟨[],_,rfl,.compare a b c d,rfl⟩
 ·obtain ⟨e1,e2⟩:=Prod.mk.inj (Option.some.inj hs);obtain rfl:=hx e2.symm;obtain ⟨a,rfl⟩:=l1 e1;exact ⟨[],_,rfl,.classes a,rfl⟩
 ·obtain ⟨e1,e2⟩:=Prod.mk.inj (Option.some.inj hs);obtain rfl:=hx e2.symm;obtain ⟨a,rfl⟩:=l1 e1;exact ⟨[],_,rfl,.sum a,rfl⟩
 ·obtain ⟨e1,e2⟩:=Prod.mk.inj (Option.some.inj hs);obtain rfl:=hx e2.symm;obtain ⟨a,rfl⟩:=l1 e1;exact ⟨[],_,rfl,.ends a,rfl⟩
 ·obtain ⟨e1,e2⟩:=Prod.mk.inj (Option.some.inj hs);obtain ⟨a,b,rfl⟩:=l2 e1;have ha:(Rd18Neutral.four a b 0 0&&Rd18Neutral.mask x b)=true:=ha;obtain ⟨v1,v2⟩:=A6 (Bool.and_eq_true_iff.mp ha).2;exact ⟨Rd18Neutral.natsOf x,_,nV v1,.blank a b _ v2,rfl⟩
 ·obtain ⟨e1,e2⟩:=Prod.mk.inj (Option.some.inj hs);obtain ⟨a,b,c,d,rfl⟩:=l4 e1;have ha:(Rd18Neutral.four a b c d&&Rd18Neutral.mask x c)=true:=ha;obtain ⟨v1,v2⟩:=A6 (Bool.and_eq_true_iff.mp ha).2;exact ⟨Rd18Neutral.natsOf x,_,nV v1,.choose a b c d _ v2,rfl⟩
 ·obtain ⟨e1,e2⟩:=Prod.mk.inj (Option.some.inj hs);obtain ⟨a,rfl⟩:=l1 e1;have ha:(Rd18Neutral.whole32 a&&Rd18Neutral.mask x a)=true:=ha;obtain ⟨v1,v2⟩:=A6 (Bool.and_eq_true_iff.mp ha).2;exact ⟨Rd18Neutral.natsOf x,_,nV v1,.keep a _ v2,rfl⟩
 ·obtain ⟨e1,e2⟩:=Prod.mk.inj (Option.some.inj hs);obtain rfl:=l0 e1;have ha:(Rd18Neutral.whole32 (x.length:Int)&&(x.all (fun (z:Int)=>Rd18Neutral.natural z 16)&&decide (x.length=Rd18Neutral.many (x.length:Int))))=true:=ha;rw [Bool.and_eq_true,Bool.and_eq_true,List.all_eq_true,decide_eq_true_eq] at ha;have:=E6 (x.length:Int);refine ⟨Rd18Neutral.natsOf x,_,nV fun z hz=>(sQ (ha.2.1 z hz)).1,.pick _ (by rw [qw];omega),?_⟩;show mB s (.pick (Rd18Neutral.natsOf x) (x.length:Int))=_;rw [qw]
 ·obtain ⟨e1,e2⟩:=Prod.mk.inj (Option.some.inj hs);obtain rfl:=hx e2.symm;obtain rfl:=l0 e1;exact ⟨[],_,rfl,.told,rfl⟩
end NK
set_option exponentiation.threshold 2000
namespace NK
open PySem L2
noncomputable abbrev Short (a:Rd18.Ans):Prop:=a.out.length≤2400
theorem bg (z:Int):Short (Rd18.just z):=Nat.zero_le _
theorem gJ {s:Rd18.Abs} {a:Int} {ok only:Bool} {f:Rd18.Column→Rd18.Abs×Rd18.Ans} (h:∀ x,Rd18.col s a=some x→Short (f x).2):Short (Rd18.of1 s a ok only f).2:=by
 unfold Rd18.of1;split
 ·exact bg _
 ·split
  ·exact bg _
  ·rename_i x hx;split
   ·exact bg _
   ·exact h x hx
theorem qU {s:Rd18.Abs} {a b:Int} {ok:Bool} {fit:Rd18.Column→Rd18.Column→Bool} {f:Rd18.Column→Rd18.Column→Rd18.Abs×Rd18.Ans} (h:∀ x y,Short (f x y).2):Short (Rd18.of2 s a b ok fit f).2:=by
 unfold Rd18.of2;split
 ·exact bg _
 ·split
  ·split
   ·exact h _ _
   ·exact bg _
  ·exact bg _
theorem iC {c:Prop} [Decidable c] {a b:Rd18.Abs×Rd18.Ans} (h1:Short a.2) (h2:Short b.2):Short (if c then a else b).2:=by
 split
 ·exact h1
 ·exact h2
theorem D7 {s:Rd18.Abs} {a b c to:Int}:Short (Rd18.does s (.more a b c to)).2:=by
 refine iC (bg _) ?_;cases Rd18.col s a with
 | none=>exact bg _
 | some x =>
  cases Rd18.col s b with
  | none=>exact bg _
  | some y =>
   cases Rd18.col s c with
   | none=>exact bg _
   | some z=>exact iC (bg _) (bg _)
theorem yG (n:Nat) (g:Nat→Bool):(Rd18.maskOf n g).length=(n+7) / 8:=by rw [← eP,gb]
theorem yH {p:Int} {g:List Int} {x:List Nat} {c:Rd18.Call} {s:Rd18.Abs} (wf:Nl s) (D:yF p g x c):Short (Rd18.does s c).2:=by
 have hr:=wf.rows;cases D
 case begin_=>exact iC (bg _) (bg _)
 case put=>exact iC (bg _) (bg _)
 case get a b c =>
  refine gJ fun x hx=>?_;have hl:x.cells.length=s.rows:=(wf.col a.toNat x hx).len;refine iC (bg _) ?_;have h1:=yG s.rows fun i=>(x.cells.getD i none).isSome;have h2:(x.cells.map (fun y=>y.getD 0)++Rd18.maskOf s.rows fun i=>(x.cells.getD i none).isSome).length≤2400:=by rw [List.length_append,List.length_map,h1,hl];omega
  exact h2
 case cast=>exact gJ fun x _=>bg _
 case whole=>exact gJ fun x _=>bg _
 case rest=>exact gJ fun x _=>bg _
 case split=>exact gJ fun x _=>bg _
 case join=>exact qU fun x y=>bg _
 case op=>exact qU fun x y=>bg _
 case more=>exact D7
 case compare o a b n =>
  have dh:Rd18.does s (.compare o a b n)=Rd18.of2 s a b (decide (0≤o)&&(decide (o≤3)&&(Rd18.isCol a&&(Rd18.isCol b&&decide (n=(s.rows:Int)))))) (fun _ _=>true) fun x y=>(s,{ value:=(((List.range s.rows).filter (sJ o.toNat x y)).length:Nat),out:=Rd18.maskOf s.rows (sJ o.toNat x y) }):=rfl;rw [dh];refine qU fun x y=>?_;have h1:=yG s.rows (sJ o.toNat x y);have h2:(Rd18.maskOf s.rows (sJ o.toNat x y)).length≤2400:=by rw [h1];omega
  exact h2
 case classes=>exact gJ fun x _=>by show 8≤2400;decide
 case sum =>
  refine gJ fun x _=>?_;show (Rd18.sumOf x).length≤2400;have h2:(Rd18.sumOf x).length=2:=by
   unfold Rd18.sumOf;split
   ·rfl
   ·rfl
  rw [h2];decide
 case ends =>
  refine gJ fun x _=>?_;exact iC (bg _) (by show 2≤2400;decide)
 case blank=>exact gJ fun x _=>bg _
 case choose=>exact qU fun x y=>bg _
 case keep=>exact iC (bg _) (bg _)
 case pick=>exact iC (bg _) (bg _)
 case told =>
  show (s.rows::s.cols.map Rd18.kindOf).length≤2400;rw [List.length_cons,List.length_map,wf.len];omega
end NK
set_option exponentiation.threshold 2000
namespace NK
open PySem L2
theorem hide {A:Prop} (h:∀ G:Prop,(A→G)→G):A:=h A id
structure Lv (P:Program) (w:World) (K:PySem.W.Frag) (mg:Str→Option Value) (base:Heap) (Z:cg):Prop where
 ex:∃ f fd,mg "Table"=some (.ref Z.CT)∧Mk K Z.CT f∧Binds K fd ["self"] []∧qV P w K mg base Bc 1 f fd ["self"] (rF Z)
theorem E7 (xs ys zs:List V):BE (xs++(ys++zs)) (some (xs.length:Int)) (some ((xs.length+ys.length:Nat):Int))=ys:=by
 unfold BE;rw [HT.EA,HT.EA];have e1:min xs.length (xs++(ys++zs)).length=xs.length:=by simp
 have e2:min (xs.length+ys.length) (xs++(ys++zs)).length=xs.length+ys.length:=by simp
 rw [e1,e2,List.drop_left,show xs.length+ys.length - xs.length=ys.length by omega,List.take_left]
section
variable {P:Program} {w:World} {K:PySem.W.Frag} {mg:Str→Option Value} {base:Heap} {f:Addr} {fd:FuncData} {Z:cg} {H H1 H2:Hp} {Q:VK} {E:XK} {CF t d:Addr} {s:Rd18.Abs}
theorem A7 {T:Addr} {od:Obj} {xs:List V} {o:HO} (ok:pd Z H t s) (hT:H T=some (.jD od (.lst xs))):pd Z (upd H T o) t s:=by
 have ne:∀ b o',H b=some o'→(∀ od xs,o'≠.jD od (.lst xs))→(upd H T o) b=some o':=fun b o' e h=>by
  refine (aH (fun z=>?_)).trans e;subst z;rw [hT] at e;exact h od xs (Option.some.inj e).symm
 obtain ⟨⟨d,⟨⟨dx,ht⟩,⟨a8,hd,nX⟩,wf⟩⟩,lam⟩:=ok;refine ⟨⟨d,⟨⟨dx,ne _ _ ht (fun _ _ z=>by cases z)⟩,⟨a8,ne _ _ hd (fun _ _ z=>by cases z),nX.of fun p y h=>?_⟩,wf⟩⟩,fun p hp=>?_⟩
 ·obtain ⟨dx,q,h1,h2⟩:=h;exact ⟨dx,q,ne _ _ h1 (fun _ _ z=>by cases z),ne _ _ h2 (fun _ _ z=>by cases z)⟩
 ·obtain ⟨ps,h1,h2,h3⟩:=lam p hp;refine ⟨ps,ne _ _ h1 (fun _ _ z=>by cases z),h2,fun pos cv e=>?_⟩;obtain ⟨c,o',vs,t',a,b,d'⟩:=h3 pos cv e;exact ⟨c,o',vs,t',a,ne _ _ b (fun _ _ z=>by injection z with _ z;cases z),d'⟩
theorem D8 {o:HO} {p:Addr} (k:Kp H H1) (hp:H1 p=none):Kp H (upd H1 p o):=fun b o' e h=>by
 rw [aH (bf (k b o' e h) hp)];exact k b o' e h
noncomputable abbrev Lw (Z:cg) (K:PySem.W.Frag):TS:=tSeq (tAsg (HS (tCall (oM Z K) [] E0 (tCons (tVar 1) (tCons (tVar 4) (tCons (tVar 6) (tCons (tVar 7) tNil)))))) (gName 8)) (tSeq (zq (Ng K "list" qI (tVar 2) (tCons (tCB (fun xs H Q=>∃ p ys,xs=[.ref p]∧(bU K H p ys∨vi K H p ys)∧Q (.int ys.length) H) (tCons (tVar 8) tNil)) tNil))) (zq (Ng K "list" EF (tVar 2) (tCons (tVar 8) tNil))))
noncomputable abbrev kL (told:List Int) (s:Rd18.Abs) (c:Rd18.Call):List Int:=told++(((mB s c).2.length:Int)::(mB s c).2)
theorem GB (s:Rd18.Abs) (c:Rd18.Call):Gw (Rd18.does s c).2=bw (mB s c).2:=by
 unfold Gw bw mB;rw [List.map_cons,List.map_map];rfl
theorem Jm {a T G L:Addr} {n p:Int} {v5 v8:Option V} {told g:List Int} {x:List Nat} {c:Rd18.Call} {D:Ends} {Nv:Obj} (hT:H T=some (.lst (bw told))) (ok:pd Z (upd H T (.jD Nv (.lst (bw told)))) t s) (hG:H G=some (.lst (bw g))) (hL:H L=some (.lst (aZ x)))
  (V3:G≠T) (V4:L≠T) (DN:0≤p) (V5:p≤18) (dm:yF p g x c) (hz:told.length+2402≤sizeLine)
  (h:∀ (r:Addr) (H':Hp) (od:Obj),H' T=some (.lst (bw (kL told s c)))→pd Z (upd H' T (.jD od (.lst (bw (kL told s c))))) t (Rd18.does s c).1→(∀ b o,H b=some o→b≠T→((∃ xs,o=.lst xs)∨∃ u v,o=.jD u v)→H' b=some o) →
   D.nx [some (.ref a),some (.ref t),some (.ref T),some (.int n),some (.int p),v5,some (.ref G),some (.ref L),some (.ref r)] H') :
  Lw Z K D [some (.ref a),some (.ref t),some (.ref T),some (.int n),some (.int p),v5,some (.ref G),some (.ref L),v8] H:=by
 refine ⟨T,_,hT,trivial,fun od=>?_⟩;have Tj:pd Z (upd H T (.jD od (.lst (bw told)))) t s:=by
  have:=A7 (o:=.jD od (.lst (bw told))) ok au;rw [jE] at this;exact this
 have wf:Nl s:=by obtain ⟨⟨d,tb⟩,_⟩:=Tj;exact tb.wf
 refine ⟨_,rfl,_,rfl,_,rfl,_,rfl,t,G,L,s,p,g,x,c,rfl,Tj,bU.of (by rw [aH V3];exact hG),bU.of (by rw [aH V4];exact hL),DN,V5,dm,fun r H1 af=>?_⟩;obtain ⟨RO,Tn,GR,IV⟩:=af;rw [GB] at IV;have PL:H1 T=some (.jD od (.lst (bw told))):=Tn _ _ au (.inr ⟨_,_,rfl⟩);have To:r≠T:=fun z=>by rw [z,au] at GR;cases GR
 have hlen:(mB s c).2.length≤2401:=by
  show ((Rd18.does s c).2.value::(Rd18.does s c).2.out.map fun (b:Nat)=>(b:Int)).length≤2401;rw [List.length_cons,List.length_map];have:=yH wf dm;unfold Short at this;omega
 refine ⟨PL,?_⟩;have xT:(upd H1 T (.lst (bw told))) r=some (.lst (bw (mB s c).2)):=by rw [aH To];exact IV
 refine ⟨_,rfl,.inl ⟨rfl,_,bU.of au⟩,_,rfl,r,_,rfl,.inl (bU.of xT),T,_,_,rfl,rfl,au,by rw [List.length_map];omega,?_⟩;rw [jE];refine ⟨_,rfl,.inl ⟨rfl,_,bU.of au⟩,_,rfl,T,r,_,_,rfl,rfl,au,by rw [aH To];exact IV,?_,?_⟩
 ·rw [List.length_append,List.length_map,List.length_map];show told.length+1+(mB s c).2.length≤sizeLine;omega
 rw [jE];have e:(bw told++[V.int ((bw (mB s c).2).length:Nat)])++bw (mB s c).2=bw (kL told s c):=by
  unfold bw kL;rw [List.map_append,List.length_map,List.append_assoc];rfl
 rw [e];refine h r _ od au ?_ fun b o eb hb ho=>?_
 ·have:=A7 (o:=.jD od (.lst (bw (kL told s c)))) RO PL;rw [jE];exact this
 ·rw [aH hb];exact Tn _ _ (by rw [aH hb];exact eb) ho
noncomputable def E8 (Z : cg) (H : Hp) (a t T : Addr) (l : List Int) (σ : St) (H2 : Hp) : Prop := ∃ (s : Rd18.Abs) (pre rest : List Int) (cs : List (List (List Int))) (fu : Nat) (told : List Int) (od : Obj) (v4 v5 v6 v7 v8 : Option V),
        σ=[some (.ref a),some (.ref t),some (.ref T),some (.int (pre.length:Int)),v4,v5,v6,v7,v8]∧l=pre++rest∧PyFlat.calls PyRd18.shape fu rest=some cs∧(cs.map PyRd18.whole).all Rd18Neutral.asked1=true ∧
        H2 T=some (.lst (bw told))∧pd Z (upd H2 T (.jD od (.lst (bw told)))) t s∧Kp H H2∧told++fD s cs=PyRd18.answers l∧told.length+2402*cs.length≤2402*300
noncomputable def Jn (l:List Int) (σ:St):Nat:=l.length - (match (σ.getD 3 none).getD .dR with | V.int i=>i.toNat | _=>0)
noncomputable abbrev sR (Z:cg) (K:PySem.W.Frag):Sp:=fun vs H Q _=>∃ (a:Addr) (l:List Int),vs=[.ref a]∧bU K H a (bw l)∧PyRd18.answers_asked l=true∧u5 Z H∧∀ r H',Kp H H'→u5 Z H'→H' r=some (.lst (bw (PyRd18.answers l)))→Q (.ref r) H'
theorem D9 (T:Ty K mg Z) (sS:ae P w K mg base 1 "has_list" ["call"] (vE Z K)) (qx:ae P w K mg base 19 "answer_of" ["table","call","given","listed"] (oM Z K)) (A8:Lv P w K mg base Z) (D:aX K mg "answers" u7 ["calls"] f fd):ae P w K mg base 20 "answers" ["calls"] (sR Z K):=by
 refine ae.of D de (fun vs H Q E h=>?_) (fun bJ A outer s H vs Q E hr h=>?_)
 ·obtain ⟨a,l,rfl,_⟩:=h;rfl
 ·obtain ⟨a,l,rfl,hS,Jo,lam,q⟩:=h;obtain ⟨fT,Tp,V6,MT,Q3,FT⟩:=A8.ex;refine ⟨_,(ai (aO (i:=1) de.nd rfl (by first | exact Or.inl rfl | exact Or.inr rfl) (HB MT FT (hr.mono (by decide)) (by rfl) V6 Q3 .nil nD))
   (ai (aO (i:=2) de.nd rfl (by first | exact Or.inl rfl | exact Or.inr rfl) (aP ag))
   (ai (aO (i:=3) de.nd rfl (by first | exact Or.inl rfl | exact Or.inr rfl) ar)
   (ai (Ho PassesOwn.never (aG vj (pv 3) (bA b9 (by rfl) T.kz jh (aa (pv 0) ag)) (aJ _)) (ai (aO (i:=4) de.nd rfl (by first | exact Or.inl rfl | exact Or.inr rfl) (bu aU (pv 0) (pv 3) (fun _ _=>rfl)))
   (ai (aO (i:=5) de.nd rfl (by first | exact Or.inl rfl | exact Or.inr rfl) (aT eh (pv 3) ar))
   (ai (aO (i:=3) de.nd rfl (by first | exact Or.inl rfl | exact Or.inr rfl) (aT eh (pv 5) (bo T.mj (pv 4))))
   (ai (aO (i:=6) de.nd rfl (by first | exact Or.inl rfl | exact Or.inr rfl) (BD EE (pv 0) (wm (pv 5)) (wm (pv 3))))
   (ai (aO (i:=7) de.nd rfl (by first | exact Or.inl rfl | exact Or.inr rfl) (aP ag))
   (ai (aR (aN (ah sS (hr.mono (by decide)) (aa (pv 4) ag))) (ai (aO (i:=5) de.nd rfl (by first | exact Or.inl rfl | exact Or.inr rfl) (aT eh (pv 3) ar))
   (ai (aO (i:=3) de.nd rfl (by first | exact Or.inl rfl | exact Or.inr rfl) (aT eh (pv 5) (bu aU (pv 0) (pv 3) (fun _ _=>rfl))))
   (aj (aO (i:=7) de.nd rfl (by first | exact Or.inl rfl | exact Or.inr rfl) (BD EE (pv 0) (wm (pv 5)) (wm (pv 3))))))) aw)
   (ai (aO (i:=8) de.nd rfl (by first | exact Or.inl rfl | exact Or.inr rfl) (Kd (ah qx (hr.mono (by decide)) (aa (pv 1) (aa (pv 4) (aa (pv 6) (aa (pv 7) ag)))))))
   (ai (lX (xi PySem.F.plainAttrs_list PySem.F.slot_list_append PySem.F.type_list_append nv (pv 2) (aa (bA b9 (by rfl) T.kz jh (aa (pv 8) ag)) ag)))
   (aj (lX (xi PySem.F.plainAttrs_list PySem.F.slot_list_extend PySem.F.type_list_extend FL (pv 2) (aa (pv 8) ag)))))))))))))
   (aj (ao (pv 2))))))),?_⟩
  refine fun t dx ht V7 ne=>⟨t,dx,rfl,au,fun d H1 Lk Lu PD Tq=>⟨rfl,?_⟩⟩;have V8:∀ b o,H b=some o→H1 b=some o:=fun b o e=>Tq b o (by rw [aH (bf e ht),aH (bf e V7)];exact e) (bf e ht);have RP:aB H H1:=V8;have RO:pd Z H1 t Rd18Neutral.start:=by
   refine ⟨⟨d,⟨⟨dx,Lu⟩,⟨[],PD,⟨List.nodup_nil,fun k hk=>(by cases hk),fun c hc=>?_⟩⟩,⟨rfl,by decide,fun c x hx=>?_⟩⟩⟩,lam.keep (aB.M0 RP)⟩
   ·show ot Z _ none ((List.replicate 16 none).getD c none);rw [t4];trivial
   ·have hx:(List.replicate 16 (none:Option Rd18.Column)).getD c none=some x:=hx;rw [t4] at hx;cases hx
  refine ⟨by show 0≤sizeLine;decide,fun T hT=>?_⟩;have RQ:H T=none:=RP.free hT;obtain ⟨V9,Wa,JI,Wb,GR⟩:=zY Jo;have Nv:Obj:=default;refine Ht (E8 Z H a t T l)
   (fun σ _=>Jn l σ) ?_ (fun σ H2 hp=>?_) (fun σ H Q Q' h hc=>?_)
  ·refine ⟨Rd18Neutral.start,[],l,V9,l.length,[],Nv,none,none,none,none,none,rfl,rfl,Wa,Wb,au,?_,D8 (aB.kp RP) hT,GR.symm,by simp;omega⟩;rw [jE];exact RO.same (ax (aB.refl H1) hT)
  ·refine hide fun G hG=>?_;obtain ⟨s,pre,rest,cs,fu,told,od,v4,v5,v6,v7,v8,rfl,hl,LH,has,FZ,RS,RT,E9,Nk⟩:=hp;have Gv:bU K H2 a (bw l):=yh hS RT;have Tr:(bw l).length=l.length:=by rw [List.length_map]
   refine hG ?_;clear hG;refine ⟨_,rfl,_,rfl,a,_,rfl,.inl Gv,_,_,rfl,rfl,_,rfl,lP (fun iD=>?_) (fun Mq=>?_)⟩
   ·have kW:rest≠[]:=fun e=>by
     rw [Tr,hl,e,List.append_nil] at iD;omega
    refine hide fun G' hG=>?_;obtain ⟨p,n,k,g,x,tl,Ba,Wc,Ts,Nw,RU,BO,RV,Wd,BC,Fb⟩:=LI s LH kW has;obtain ⟨DN,We,OM,Tu,RX⟩:=rV Ts;have Ni:k=0→x=[]:=fun e=>by
     rcases Fb with ⟨_,h,_⟩ | ⟨h,_⟩
     ·exact h
     ·omega
    obtain ⟨xn,c,RY,dm,Jr⟩:=M5 (by rw [Ts,Nw]) Ni Wd s;obtain ⟨r1,IV⟩:∃ r1,rest=p::(g++r1):=by
     rcases Fb with ⟨_,_,h⟩ | ⟨_,h⟩ <;> exact ⟨_,h⟩
    refine hG ?_;clear hG;have RN:bw l=bw (pre++[p])++(bw g++bw r1):=by
     rw [hl,IV];unfold bw;simp
    have AM:(bw l)[pre.length]?=some (.int p):=by
     rw [hl,IV];unfold bw;simp
    have M6:Cz (tI [1,2,3,4,4,4,3,3,4,4,4,1,1,1,2,4,1,0,0]) p=some (.int (n:Int)):=by
     rw [show p=((p.toNat:Nat):Int) by omega];refine aI ?_;show (LG.map V.int)[p.toNat]?=_;rw [List.getElem?_map,OM];rfl
    refine ⟨_,rfl,_,rfl,a,_,_,_,rfl,rfl,Gv,aI (j:=pre.length) AM,?_⟩;refine ⟨_,rfl,_,_,rfl,rfl,?_⟩;refine ⟨_,rfl,_,rfl,p,_,rfl,M6,_,_,rfl,rfl,?_⟩;refine ⟨_,rfl,_,rfl,_,rfl,_,rfl,_,rfl,a,_,rfl,Gv,fun G hG=>?_⟩;have RZ:BE (bw l) (some ((pre.length:Int)+1)) (some ((pre.length:Int)+1+(n:Int)))=bw g:=by
     have:=E7 (bw (pre++[p])) (bw g) (bw r1);rw [← RN] at this;rw [← this];have e1:((bw (pre++[p])).length:Int)=(pre.length:Int)+1:=by unfold bw;simp
     have e2:(((bw (pre++[p])).length+(bw g).length:Nat):Int)=(pre.length:Int)+1+(n:Int):=by unfold bw;simp [Nw]
     rw [e1,e2]
    rw [RZ];have Wf:G≠T:=fun z=>by rw [z,FZ] at hG;cases hG
    refine ⟨by show 0≤sizeLine;decide,fun L hL=>?_⟩;have Tv:G≠L:=fun z=>by rw [← z,au] at hL;cases hL
    have R1:H2 L=none:=by rw [aH Tv.symm] at hL;exact hL
    have Wg:L≠T:=fun z=>by rw [z,FZ] at R1;cases R1
    refine ⟨_,rfl,p,rfl,fun H5 s5=>⟨_,rfl,?_⟩⟩;have PM:aB H2 H5:=(ax (ax (aB.refl H2) hG) R1).trans s5;have PN:=PM _ _ FZ;have Ln:H5 G=some (.lst (bw g)):=s5 _ _ (by rw [aH Tv,au]);have Wh:H5 L=some (.lst (aZ [])):=s5 _ _ au;have Tw:pd Z (upd H5 T (.jD od (.lst (bw told)))) t s:=RS.same fun b o e=>by
     by_cases hb:b=T
     ·rw [hb,au] at e ⊢;exact e
     ·rw [aH hb] at e ⊢;exact PM _ _ e
    have Wi:Kp H H5:=RT.trans (aB.kp PM);have R3:told.length+2402≤sizeLine:=by
     have:2402*300≤sizeLine:=by decide
     omega
    have ON:kL told s c++fD (Rd18.does s c).1 Ba=PyRd18.answers l:=by
     rw [BC,Jr] at E9;rw [← E9];show (told++(((mB s c).2.length:Int)::(mB s c).2))++fD (Rd18.does s c).1 Ba=_;rw [List.append_assoc]
    have R4:∀ {H':Hp} {PQ:Obj},pd Z (upd H5 T (.jD od (.lst (bw told)))) t s→(kL told s c).length+2402*Ba.length≤2402*300:=fun ok=>by
     obtain ⟨⟨d',tb⟩,_⟩:=ok;have h1:=yH tb.wf dm;unfold Short at h1;have h2:(kL told s c).length=told.length+(1+(1+(Rd18.does s c).2.out.length)):=by
      show (told++_).length=_;rw [List.length_append,List.length_cons];show _+(((Rd18.does s c).2.value::(Rd18.does s c).2.out.map fun (b:Nat)=>(b:Int)).length+1)=_;rw [List.length_cons,List.length_map];omega
     omega
    have fin:∀ (D:Ends) (H6:Hp) (L6:Addr) (Tz TB:Option V) (m:Int) (Ea:List Int),l=Ea++tl→m=(Ea.length:Int)→pre.length < Ea.length→aB H5 H6→L6≠T→H6 L6=some (.lst (aZ xn)) →
      (∀ di H',E8 Z H a t T l di H'∧Jn l di < l.length - pre.length→D.nx di H') →
      Lw Z K D [some (.ref a),some (.ref t),some (.ref T),some (.int m),some (.int p),Tz,some (.ref G),some (.ref L6),TB] H6:=by
     rintro D H6 L6 Tz TB m Ea O8 rfl JD s6 Wj OO hD;have Wk:pd Z (upd H6 T (.jD od (.lst (bw told)))) t s:=Tw.same fun b o e=>by
      by_cases hb:b=T
      ·rw [hb,au] at e ⊢;exact e
      ·rw [aH hb] at e ⊢;exact s6 _ _ e
     refine Jm (s:=s) (c:=c) (Nv:=od) (s6 _ _ PN) Wk (s6 _ _ Ln) OO Wf Wj DN (by omega) dm R3 fun r H' PQ Wl Wm Wn=>hD _ _ ⟨⟨(Rd18.does s c).1,Ea,tl,Ba,Wc,kL told s c,PQ,_,_,_,_,_,rfl,O8,RU,RV,Wl,Wm,fun b o e h=>?_,ON,R4 (H':=H') (PQ:=PQ) Tw⟩,?_⟩
     ·exact Wn _ _ (s6 _ _ (Wi _ _ e h)) (bf e RQ) h
     ·show l.length - (Ea.length:Int).toNat < l.length - pre.length;have:Ea.length≤l.length:=by rw [O8,List.length_append];omega
      rw [Int.toNat_natCast];omega
    refine lP (fun hp=>?_) (fun hp=>?_)
    ·have Tq:k=1:=Tu.mpr hp;obtain ⟨_,xT⟩:k=1∧rest=p::(g++(x.length:Int)::(x++tl)):=by
      rcases Fb with ⟨h,_⟩ | h
      ·omega
      ·exact h
     have TC:bU K H5 a (bw l):=PM.seq Gv;have OP:(bw l)[pre.length+1+n]?=some (.int (x.length:Int)):=by
      rw [hl,xT,← Nw];unfold bw;rw [List.getElem?_map,show pre++p::(g++(x.length:Int)::(x++tl))=(pre++p::g)++(x.length:Int)::(x++tl) by simp,List.getElem?_append_right (by simp;omega)];rw [show pre.length+1+g.length - (pre++p::g).length=0 by simp;omega];rfl
     refine ⟨_,rfl,_,_,rfl,rfl,?_⟩;refine ⟨_,rfl,_,rfl,_,rfl,a,_,_,_,rfl,rfl,TC,(by rw [show (pre.length:Int)+1+(n:Int)=((pre.length+1+n:Nat):Int) by omega];exact aI OP),_,_,rfl,rfl,?_⟩;refine ⟨_,rfl,_,rfl,_,rfl,_,rfl,_,rfl,a,_,rfl,TC,fun L6 OO=>?_⟩;have R5:bw l=bw (pre++p::(g++[(x.length:Int)]))++(bw x++bw tl):=by
      rw [hl,xT];unfold bw;simp
     have OQ:BE (bw l) (some ((pre.length:Int)+1+(n:Int)+1)) (some ((pre.length:Int)+1+(n:Int)+1+(x.length:Int)))=bw x:=by
      have:=E7 (bw (pre++p::(g++[(x.length:Int)]))) (bw x) (bw tl);rw [← R5] at this;rw [← this];have e1:((bw (pre++p::(g++[(x.length:Int)]))).length:Int)=(pre.length:Int)+1+(n:Int)+1:=by unfold bw;simp [Nw];omega
      have e2:(((bw (pre++p::(g++[(x.length:Int)]))).length+(bw x).length:Nat):Int)=(pre.length:Int)+1+(n:Int)+1+(x.length:Int):=by
       rw [Int.natCast_add,e1];unfold bw;simp
      rw [e1,e2]
     rw [OQ];have Wo:bw x=aZ xn:=by rw [RY];unfold bw aZ;rw [List.map_map];rfl
     rw [Wo];refine fin _ _ L6 _ _ _ (pre++p::(g++(x.length:Int)::x)) ?_ ?_ (by simp) (ax (aB.refl H5) OO) (fun z=>by rw [z,PN] at OO;cases OO) au fun di H' h=>h
     ·rw [hl,xT];simp
     ·simp [Nw];omega
    ·have Wp:k=0:=by
      rcases RX with h | h
      ·exact h
      ·exact absurd (Tu.mp h) hp
     obtain ⟨_,CB,xT⟩:k=0∧x=[]∧rest=p::(g++tl):=by
      rcases Fb with h | ⟨h,_⟩
      ·exact h
      ·omega
     have R6:xn=[]:=by
      rw [CB] at RY;exact List.map_eq_nil_iff.mp RY.symm
     refine fin _ H5 L _ _ _ (pre++p::g) ?_ ?_ (by simp) (aB.refl H5) Wg (by rw [R6];exact Wh) fun di H' h=>h
     ·rw [hl,xT];simp
     ·simp [Nw];omega
   ·have MZ:rest=[]:=by
     rw [Tr,hl,List.length_append] at Mq;exact List.length_eq_zero_iff.mp (by omega)
    subst MZ;have R7:cs=[]:=by
     cases fu <;> exact (Option.some.inj LH).symm
    subst R7;rw [Hb,List.append_nil] at E9;rw [E9] at FZ RS;refine ⟨_,rfl,q T H2 RT ?_ FZ⟩;have:=(A7 (o:=.lst (bw (PyRd18.answers l))) RS au).lam;rw [jE] at this;intro pp Wq;have e:upd H2 T (.lst (bw (PyRd18.answers l)))=H2:=by
     funext b;by_cases hb:b=T
     ·rw [hb,au,FZ]
     ·rw [aH hb]
    rw [e] at this;exact this pp Wq
  ·obtain ⟨v,e1,w',e2,a',xs,e3,hs,i,j,e4,e5,b,e6,hq⟩:=hc;exact ⟨v,e1,w',e2,a',xs,e3,hs,i,j,e4,e5,b,e6,h _ _ hq⟩
end
end NK
namespace L2
open PySem PySem.Spec PyProof.Rows PySem.W
theorem zS:∀ {ns:List Int} {vs:List Value},bB (ns.map V.int) vs→IntsAre vs ns
 | [],[],_=>.nil
 | n::r,v::vs,h=>by
  cases h with
  | cons a b =>
   obtain ⟨t,rfl⟩:=a;exact .cons n t (zS b)
noncomputable def GC (mg:Str→Option Value) (h:Heap):Prop:=∃ bm ob,mg "__builtins__"=some (.ref bm)∧bm≠builtinsNs∧h.get? bm=some ob∧ob.cls=.type "module"∧ob.dict=some builtinsNs∧ob.data=.plain
theorem GD {P:Program} {w:World} {K:PySem.W.Frag} {mg mb:Str→Option Value} {k:Nat} {fa a:Addr} {x:Str} {sp:Sp} {cF:Shared} {vs:List Value} {ns out:List Int} {tabs:List (Addr×Addr)}
  (KX:K.In cF.heap) (Lj:cF.heap.Ns mainGlobals mg) (hb:cF.heap.Ns builtinsNs mb) (R8:∀ x:Str,x≠"__name__"→mb x=bootBuiltins x) (M7:cF.heap.NoLimit) (hg:cF.gens=#[])
  (ha:cF.heap.get? a=some { cls:=.type "list",data:=.seq vs.toArray }) (hi:IntsAre vs ns) (hl:ns.length≤sizeLine) (hr:eu k callerA)
  (hT:TabsAt tabs cF.heap) (hK:noTabs K=true) (rE:GC mg cF.heap)
  (F:∀ base:Heap,K.In base→base.Ns mainGlobals mg→(∀ q∈tabs,CodeHd base q.1 q.2)→GC mg base→∃ fd,qV P w K mg base Bc k fa fd [x] sp∧BindsTo cF fd ⟨[.ref a],[]⟩ [(x,.ref a)])
  (Cw:∀ (H:Hp) (Q:VK),bU K H a (ns.map V.int)→(∀ q∈tabs,H q.2=some (.zZ #[]))→(∀ r H',H' r=some (.lst (out.map V.int))→Q (.ref r) H')→sp [.ref a] H Q E0) :
  codeAny (model P w) callerA (.call (.ref fa) ⟨[.ref a],[]⟩) (fun r s'=>(∃ (v:Addr) (Lx:List Value) (n:Nat),r=.ok (.ret (.ref v))∧s'.heap.get? v=some { cls:=.type "list",data:=.seq Lx.toArray n }∧IntsAre Lx out)∧OldK cF.heap s'.heap∧s'.os=cF.os∧AllBare s'.gens) cF:=by
 have rv:=zC hi;have R9:=hi.length;have core:∀ H:Hp,bU K H a (ns.map V.int)→(∀ q∈tabs,H q.2=some (.zZ #[]))→rX P w H cF.heap→(∀ b u,H b=some u→(b=a∧∃ o xs,u=.jD o (.lst xs))∨(b∈tabs.map (·.2)∧u=.zZ #[]))→(∀ b,H b≠none→K.lookup b=none) →
   codeAny (model P w) callerA (.call (.ref fa) ⟨[.ref a],[]⟩) (fun r s'=>(∃ (v:Addr) (Lx:List Value) (n:Nat),r=.ok (.ret (.ref v))∧s'.heap.get? v=some { cls:=.type "list",data:=.seq Lx.toArray n }∧IntsAre Lx out)∧OldK cF.heap s'.heap∧s'.os=cF.os∧AllBare s'.gens) cF:=by
  intro H hS hH dz hA Wr;have wF:∀ {b:Addr} {o:Obj},cF.heap.get? b=some o→H b=none→(wX cF.heap H).get? b=some o:=fun e n=>Hc e n;have M8:∀ {b:Addr} {o:Obj},cF.heap.get? b=some o→o≠{ cls:=.type "list",data:=.seq vs.toArray }→o≠tabObj #[]→H b=none:=fun {b o} e n1 n2=>by
   cases q:H b with
   | none=>rfl
   | some u =>
    rcases hA b u q with ⟨rfl,_⟩ | ⟨hb,_⟩
    ·rw [ha] at e;exact absurd (Option.some.inj e).symm n1
    ·obtain ⟨p,hp,rfl⟩:=List.mem_map.mp hb;rw [(hT p hp).2] at e;exact absurd (Option.some.inj e).symm n2
  have PR:∀ {b:Addr} {m:Str→Option Value},cF.heap.Ns b m→(wX cF.heap H).Ns b m:=fun {b m} ⟨o,es,ep,e,d,r⟩=>⟨o,es,ep,wF e (M8 e (fun z=>by rw [z] at d;cases d) (fun z=>by rw [z] at d;cases d)),d,r⟩;have TF:K.In (wX cF.heap H):=fun b o e=>wF (KX b o e) (by
   cases q:H b with
   | none=>rfl
   | some u=>rw [Wr b (by rw [q];simp)] at e;cases e)
  have hM:Mod K mg (wX cF.heap H):=⟨TF,PR Lj,⟨mb,PR hb,R8⟩,let ⟨mc,h1,h2⟩:=M7;⟨mc,PR h1,h2⟩⟩;have nW:∀ q∈tabs,CodeHd (wX cF.heap H) q.1 q.2:=fun q hq=>by
   obtain ⟨o,PU,file,tf,flags,tg,Ws,text,tt,e,c,r⟩:=(hT q hq).1;exact ⟨o,PU,file,tf,flags,tg,Ws,text,tt,wF e (M8 e (fun z=>by rw [z] at c;injection c with c;exact absurd c (by decide)) (fun z=>by rw [z] at c;cases c)),c,r⟩
  have Sa:GC mg (wX cF.heap H):=by
   obtain ⟨bm,ob,h1,h2,h3,h4,h5⟩:=rE;exact ⟨bm,ob,h1,h2,wF h3 (M8 h3 (fun z=>by rw [z] at h4;injection h4 with h4;exact absurd h4 (by decide)) (fun z=>by rw [z] at h4;cases h4)),h4,h5⟩
  have e0:um P w K mg (wX cF.heap H) callerA [] cF H:=⟨rfl,hM,fun b o e=>JT e,Nat.le_of_eq (Fp _ _),trivial,fun b hb=>absurd (show b∈([]:List Addr) from hb) (by simp),dz,.of_eq hg⟩;obtain ⟨fd,FO,xp⟩:=F _ TF (PR Lj) nW Sa;refine codeAny_mono (FO.run callerA [] cF H ⟨[.ref a],[]⟩ [.ref a] [.ref a] (fun v H'=>∃ r,v=.ref r∧H' r=some (.lst (out.map V.int))) E0 hr e0 xp (.cons rfl .nil) (Cw H _ hS hH fun r H' e=>⟨r,rfl,e⟩)) fun r s' h=>?_;cases r with
  | error e=>exact h.elim
  | ok fl =>
   cases fl with
   | next=>exact False.elim h
   | brk=>exact False.elim h
   | cont=>exact False.elim h
   | ret u =>
    obtain ⟨v,H',os,bare,un,HY,r',q⟩:=h;obtain ⟨ra,rfl,Wt⟩:=q;obtain rfl:u=Value.ref ra:=r';obtain ⟨_,Lx,n,MJ,AM⟩:=HY ra _ Wt;have grown:∀ b o,b∈tabs.map (·.2)→cF.heap.get? b=some o→isCodeTable cF.heap b∧o=tabObj #[]∧∃ ps,s'.heap.get? b=some (tabObj ps):=fun b o hb e=>by
     obtain ⟨p,hp,rfl⟩:=List.mem_map.mp hb;have e2:=(hT p hp).2;rw [e] at e2;obtain ⟨more,hm⟩:=un.rY _ _ (hH p hp);exact ⟨((hT p hp).1.tab (hT p hp).2).isCodeTable,Option.some.inj e2,_,HY _ _ hm⟩
    have keep:∀ b o,b∉tabs.map (·.2)→cF.heap.get? b=some o→s'.heap.get? b=some o:=fun b o hb e=>by
     cases q:H b with
     | none=>exact un.keep b o e q (by intro z;exact absurd (show b∈([]:List Addr) from z) (by simp)) (by simp)
     | some u =>
      rcases hA b u q with ⟨_,ob,xs,rfl⟩ | ⟨uq,_⟩
      ·have z2:=un.pA b ob _ q;obtain ⟨e1,_⟩:=dz b _ q;obtain ⟨e2,_⟩:=HY b _ z2;rw [e] at e1;cases e1;exact e2
      ·exact absurd uq hb
    refine ⟨⟨ra,Lx,n,rfl,AM,zS MJ⟩,⟨fun b o e=>?_,fun b o e=>?_⟩,os,bare⟩
    ·by_cases hb:b∈tabs.map (·.2)
     ·obtain ⟨ht,rfl,ps,hP⟩:=grown b o hb e;exact .inr (.inl ⟨ht,rfl,#[],ps,rfl,by rw [Array.empty_append];exact hP⟩)
     ·exact .inl (keep b o hb e)
    ·by_cases hb:b∈tabs.map (·.2)
     ·obtain ⟨_,_,ps,hP⟩:=grown b o hb e;exact ⟨_,hP⟩
     ·exact ⟨o,keep b o hb e⟩
 have Wu:a∉tabs.map (·.2):=fun z=>by
  obtain ⟨p,hp,e⟩:=List.mem_map.mp z;have:=(hT p hp).2;rw [e,ha] at this;cases this
 have OR:∀ b∈tabs.map (·.2),K.lookup b=none:=fun b hb=>by
  obtain ⟨p,hp,rfl⟩:=List.mem_map.mp hb;cases e:K.lookup p.2 with
  | none=>rfl
  | some o =>
   have e2:=KX _ _ e;rw [(hT p hp).2] at e2;obtain rfl:=Option.some.inj e2;have h2:=List.all_eq_true.mp hK _ (mem_of_lookupK e);exact absurd (show false=true from h2) Bool.false_ne_true
 have OS:∀ b∈tabs.map (·.2),cF.heap.get? b=some (tabObj #[]):=fun b hb=>by
  obtain ⟨p,hp,rfl⟩:=List.mem_map.mp hb;exact (hT p hp).2
 cases hk:K.lookup a with
 | some o =>
  have e:=KX a o hk;rw [ha] at e;cases e;refine core (fun b=>if b∈tabs.map (·.2) then some (.zZ #[]) else none) (.inr ⟨_,vs.toArray,_,hk,rfl,rfl,rfl,by rw [List.size_toArray,R9];exact hl,by simpa using rv⟩) (fun p hp=>if_pos (List.mem_map_of_mem hp)) (fun b u z=>?_) (fun b u z=>?_) fun b z=>?_
  ·by_cases hb:b∈tabs.map (·.2)
   ·have z':=(if_pos hb).symm.trans z;cases z';exact OS b hb
   ·have z':=(if_neg hb).symm.trans z;cases z'
  ·by_cases hb:b∈tabs.map (·.2)
   ·have z':=(if_pos hb).symm.trans z;cases z';exact .inr ⟨hb,rfl⟩
   ·have z':=(if_neg hb).symm.trans z;cases z'
  ·by_cases hb:b∈tabs.map (·.2)
   ·exact OR b hb
   ·exact absurd (if_neg hb) z
 | none =>
  refine core (fun b=>if b=a then some (.jD { cls:=.type "list",data:=.seq vs.toArray } (.lst (ns.map V.int))) else if b∈tabs.map (·.2) then some (.zZ #[]) else none) (.inl (.inr ⟨{ cls:=.type "list",data:=.seq vs.toArray },if_pos rfl⟩)) (fun p hp=>?_) (fun b u z=>?_) (fun b u z=>?_) fun b z=>?_
  ·have hm:=List.mem_map_of_mem (f:=(·.2)) hp;have hn:¬ p.2=a:=fun e=>Wu (by rw [← e];exact hm);exact (if_neg hn).trans (if_pos hm)
  ·by_cases hb:b=a
   ·have z':=(if_pos hb).symm.trans z;cases z';subst hb;exact ⟨ha,by rw [List.length_map];exact hl,vs,_,rv,ha⟩
   ·have z':=(if_neg hb).symm.trans z;by_cases Bl:b∈tabs.map (·.2)
    ·have M9:=(if_pos Bl).symm.trans z';cases M9;exact OS b Bl
    ·have M9:=(if_neg Bl).symm.trans z';cases M9
  ·by_cases hb:b=a
   ·have z':=(if_pos hb).symm.trans z;cases z';exact .inl ⟨hb,_,_,rfl⟩
   ·have z':=(if_neg hb).symm.trans z;by_cases Bl:b∈tabs.map (·.2)
    ·have M9:=(if_pos Bl).symm.trans z';cases M9;exact .inr ⟨Bl,rfl⟩
    ·have M9:=(if_neg Bl).symm.trans z';cases M9
  ·by_cases hb:b=a
   ·rw [hb];exact hk
   ·by_cases Bl:b∈tabs.map (·.2)
    ·exact OR b Bl
    ·exact absurd ((if_neg hb).trans (if_neg Bl)) z
end L2
namespace NK
open PySem L2 PySem.W PyProof.Rows
noncomputable abbrev RW:OpenSpec:=PySem.Challenge.rw_ninekinds_s01_answers
theorem Cv {Pp:Params} {h:Heap} {args:List WData} {vals:List Value} (Jp:RW.pre args=true) (OT:WellAll Pp h vals args) :
  ∃ a vs ns,vals=[Value.ref a]∧args=[WData.list (ns.map WData.int)]∧h.get? a=some { cls:=.type "list",data:=.seq vs.toArray }∧IntsAre vs ns∧ns.length≤16000∧PyRd18.answers_asked ns=true∧∀ d,d=WData.list ((PyRd18.answers ns).map WData.int)→RW.post args d=true:=by
 obtain ⟨av,OU,Jo⟩:=os_pre_some Jp;obtain ⟨Sb,Ju⟩:=Codec.encAll_of_decAll _ _ _ OU;obtain ⟨ns,u⟩:=av;have OV:args=[WData.list (ns.map WData.int)]:=Sb;have OW:PyRd18.answers_asked ns=true:=Jo;have Jq:∀ d,d=WData.list ((PyRd18.answers ns).map WData.int)→RW.post args d=true:=fun d e=>by
  refine os_post OU ?_;have h2:=os_same_ints (l:=PyRd18.answers ns) (k:=PyRd18.answers ns) rfl;rw [os_listI (xs:=PyRd18.answers ns) rfl] at h2;rw [e];exact h2
 have hlen:ns.length≤16000:=by
  have h1:(Codec.inLen 0 16000 ns&&_)=true:=(Codec.and_of Ju).1;have h2:Codec.inNat 0 16000 ns.length=true:=(Codec.and_of h1).1;exact (Codec.inNat_iff.mp h2).2
 subst OV;cases OT with
 | cons w1 w2 =>
  cases w2;cases w1 with
  | list ho Ai=>exact ⟨_,_,ns,rfl,rfl,ho,Sz.vG ns _ Ai,hlen,OW,Jq⟩
theorem yI {R:WRecords} {cl:Str→Option Addr} {h:Heap}:∀ {vs:List Value} {ns:List Int},IntsAre vs ns→ReadsAllW R cl h vs (ns.map WData.int) []
 | _,_,.nil=>.nil
 | _,_,.cons n t r=>by
  have:=ReadsAllW.cons (ReadsW.int (R:=R) (cl:=cl) (h:=h) n t) (yI r);exact this
theorem GF {w:World} {eg cF:Shared} {mg mb:Str→Option Value} {K:Frag} {fa:Addr} {args:List WData} {vals:List Value} {Z:cg} {tbs:List (Addr×Addr)}
  (KX:K.In cF.heap) (Lj:cF.heap.Ns mainGlobals mg) (hb:cF.heap.Ns builtinsNs mb) (R8:∀ x:Str,x≠"__name__"→mb x=bootBuiltins x) (M7:cF.heap.NoLimit) (hg:cF.gens=#[])
  (Jp:RW.pre args=true) (OT:WellAll w.params cF.heap vals args) (hT:TabsAt tbs cF.heap) (hZ:∀ p∈tabs Z,∃ q∈tbs,q.2=p.1) (hK:noTabs K=true) (rE:GC mg cF.heap) (Wv:mg "answers"=some (.ref fa))
  (F:∀ base:Heap,K.In base→base.Ns mainGlobals mg→(∀ q∈tbs,CodeHd base q.1 q.2)→GC mg base→ae RW.prog w K mg base 20 "answers" ["calls"] (sR Z K)) :
  wpAny (model RW.prog w) callerA (PySem.call (.ref fa) vals) (fun v s'=>GoodWG RW.claim (classAt eg.heap) (ExcName.means eg.heap) args cF (.ok (.ret v)) s') (fun e s'=>GoodWG RW.claim (classAt eg.heap) (ExcName.means eg.heap) args cF (.error e) s') cF:=by
 obtain ⟨a,vs,ns,rfl,rfl,Dh,hints,hlen,Jo,Jq⟩:=Cv Jp OT;refine enter_call (codeAny_mono (GD (k:=20) (x:="calls") (sp:=sR Z K) (out:=PyRd18.answers ns) KX Lj hb R8 M7 hg Dh hints (Nat.le_trans hlen (by decide)) ⟨rfl,by decide,by decide⟩ hT hK rE (fun base k1 k2 k3 k4=>?_) (fun H Q hS hH hq=>?_)) fun r s' hq=>?_)
 ·obtain ⟨f,fd,h1,h2,h3,h4⟩:=(F base k1 k2 k3 k4).ex;have e:f=fa:=by have:=h1.symm.trans Wv;injection this with this;injection this
  subst e;exact ⟨fd,h4,h3 cF [.ref a] KX rfl⟩
 ·refine ⟨a,ns,rfl,hS,Jo,fun p hp=>?_,fun r H' _ _ e=>hq r H' e⟩;obtain ⟨q',Fz,e⟩:=hZ p hp;exact fR.nil (by rw [← e];exact hH q' Fz)
 ·obtain ⟨⟨v,Lx,n,rfl,AM,OE⟩,hold,Ww,OX⟩:=hq;exact ⟨.inl ⟨.ref v,_,_,rfl,osNone,.list AM rfl rfl (yI OE),osPost (Jq _ rfl),fun h=>absurd h Bool.false_ne_true⟩,hold,Ww,OX⟩
section
variable {K:Frag} {h:Heap} {mg:Str→Option Value} {x:Str} {st:Stmt} {ps:List Str} {f c Pt ad:Addr} {oc:Value} {od an:Option Addr} {sl:Array (Option Value)} {kV dc pm cd ct:Value}
theorem Wx {p:List Value→Prop} (h:∀ a,p [a]):∀ us:List Value,us.length=1→p us:=fun us e=>match us,e with | [_],_=>h _
theorem Wy {p:List Value→Prop} (h:∀ a b,p [a,b]):∀ us:List Value,us.length=2→p us:=fun us e=>match us,e with | [_,_],_=>h _ _
theorem Wz {p:List Value→Prop} (h:∀ a b c,p [a,b,c]):∀ us:List Value,us.length=3→p us:=fun us e=>match us,e with | [_,_,_],_=>h _ _ _
theorem WA {p:List Value→Prop} (h:∀ a b c d,p [a,b,c,d]):∀ us:List Value,us.length=4→p us:=fun us e=>match us,e with | [_,_,_,_],_=>h _ _ _ _
theorem WB {p:List Value→Prop} (h:∀ a b c d e,p [a,b,c,d,e]):∀ us:List Value,us.length=5→p us:=fun us e=>match us,e with | [_,_,_,_,_],_=>h _ _ _ _ _
theorem WC {p:List Value→Prop} (h:∀ a b c d e f,p [a,b,c,d,e,f]):∀ us:List Value,us.length=6→p us:=fun us e=>match us,e with | [_,_,_,_,_,_],_=>h _ _ _ _ _ _
theorem WD {p:List Value→Prop} (h:∀ a b c d e f g,p [a,b,c,d,e,f,g]):∀ us:List Value,us.length=7→p us:=fun us e=>match us,e with | [_,_,_,_,_,_,_],_=>h _ _ _ _ _ _ _
theorem WE {p:List Value→Prop} (h:∀ a b c d e f g h,p [a,b,c,d,e,f,g,h]):∀ us:List Value,us.length=8→p us:=fun us e=>match us,e with | [_,_,_,_,_,_,_,_],_=>h _ _ _ _ _ _ _ _
theorem aK (X:K.In h) (G:h.Ns mainGlobals mg) (a:nsIn K mainGlobals x=some (some (.ref f)):=by k_is) (l:K.lookup f=some ⟨oc,od,.func (fnOf x x (l9 st) (gZ st) (ak st) .none kV dc pm an cd ct),sl⟩:=by k_is) (c:codeIn K cd x=true:=by k_is) (k:keepIn K (.ref f)=true:=by k_is)
  (b:∀ (kV doc pm:Value) (an:Option Addr) (bJ ct:Value) (us:List Value),us.length=ps.length→bindArgs (fnOf x x (l9 st) (gZ st) (ak st) .none kV doc pm an bJ ct) ⟨us,[]⟩=pure (ps.zip us):=by first | (exact fun _ _ _ _ _ _=>NK.Wx fun _=>rfl) | (exact fun _ _ _ _ _ _=>NK.Wy fun _ _=>rfl) | (exact fun _ _ _ _ _ _=>NK.Wz fun _ _ _=>rfl) | (exact fun _ _ _ _ _ _=>NK.WA fun _ _ _ _=>rfl) | (exact fun _ _ _ _ _ _=>NK.WB fun _ _ _ _ _=>rfl) | (exact fun _ _ _ _ _ _=>NK.WC fun _ _ _ _ _ _=>rfl) | (exact fun _ _ _ _ _ _=>NK.WD fun _ _ _ _ _ _ _=>rfl) | (exact fun _ _ _ _ _ _=>NK.WE fun _ _ _ _ _ _ _ _=>rfl)):∃ f fd,aX K mg x st ps f fd :=
 ⟨f,_,Ah (st:=st) l c k,mg_of X G a,(Ah (st:=st) l c k).binds b⟩
theorem qy {fd:FuncData} {p1:Value} {p2:Option Addr} {vs:Array Value} {p3:Array (Option Value)} (a:nsIn K mainGlobals x=some (some (.ref f))) (l:K.lookup f=some ⟨oc,od,.func fd,sl⟩) (hc:fd.code=.ref c) (l2:K.lookup c=some ⟨p1,p2,.fields vs,p3⟩) (hv:(vs[11]?:Option Value)=some (.ref Pt)) :
  tabIn K x=some (c,Pt):=by
 unfold tabIn;rw [a];simp only [l,hc,l2,hv]
theorem ba {i:Int} {t:Nat} (X:K.In h) (G:h.Ns mainGlobals mg) (a:nsIn K mainGlobals x=some (some (.int i t)):=by k_is):cZ mg x i:=⟨_,mg_of X G a⟩
theorem oR {xs:List V} {its:Array Value} {n:Nat} (X:K.In h) (G:h.Ns mainGlobals mg) (a:nsIn K mainGlobals x=some (some (.ref ad))) (l:K.lookup ad=some ⟨.type "tuple",od,.seq its n,sl⟩) (hs:its.size≤sizeLine) (hv:bB xs its.toList):Al K mg x xs :=
 ⟨ad,mg_of X G a,fun H=>.inr ⟨_,its,n,l,rfl,rfl,hs,hv⟩⟩
theorem mD {base:Heap} {T:Addr} {fd:FuncData} {ff:Addr} (X:K.In h) (G:h.Ns mainGlobals mg) (D:aX K mg x st ps ff fd) (ht:tabIn K x=some (c,T)) (hb:GC mg base) (hc:CodeHd base c T):j7 mg base fd.code T:=by
 obtain ⟨oc,od,kV,doc,pm,an,bJ,ct,FA,rfl,lk,nW⟩:=D.1.ex;have e:=law_code X G ht D.2.1 (X _ _ lk) rfl;exact ⟨⟨c,e,hc⟩,hb⟩
theorem Sd (X:K.In h) {f0 c0 P0:Addr} {TH:FuncData} {WG WH:Value} {Nv WI:Option Addr} {PU:Array Value} {WJ WK:Array (Option Value)} {f1 c1 P1:Addr} {TJ:FuncData} {WL WM:Value} {WN WO:Option Addr} {TK:Array Value} {WQ WR:Array (Option Value)} {f2 c2 P2:Addr} {TM:FuncData} {WS WT:Value} {WU WV:Option Addr} {TN:Array Value} {J4 WW:Array (Option Value)} {f3 c3 P3:Addr} {TQ:FuncData} {WX WY:Value} {WZ W0:Option Addr} {Pm:Array Value} {W1 W2:Array (Option Value)} {f4 c4 P4:Addr} {TR:FuncData} {W3 W4:Value} {W5 W6:Option Addr} {TU:Array Value} {W7 W8:Array (Option Value)} {f5 c5 P5:Addr} {TV:FuncData} {W9 Xa:Value} {Xb Xc:Option Addr} {TX:Array Value} {Xd Xe:Array (Option Value)} {f6 c6 P6:Addr} {TY:FuncData} {Xf Xg:Value} {Xh Xi:Option Addr} {TZ:Array Value} {Xj Xk:Array (Option Value)} {f7 c7 P7:Addr} {T1:FuncData} {Xl Xm:Value} {Xn Xo:Option Addr} {T2:Array Value} {Xp Xq:Array (Option Value)}
  (a0:nsIn K mainGlobals "cast_column"=some (some (.ref f0))) (l0:K.lookup f0=some ⟨WG,Nv,.func TH,WJ⟩) (h0:TH.code=.ref c0) (m0:K.lookup c0=some ⟨WH,WI,.fields PU,WK⟩) (v0:(PU[11]?:Option Value)=some (.ref P0))
  (a1:nsIn K mainGlobals "round_column"=some (some (.ref f1))) (l1:K.lookup f1=some ⟨WL,WN,.func TJ,WQ⟩) (h1:TJ.code=.ref c1) (m1:K.lookup c1=some ⟨WM,WO,.fields TK,WR⟩) (v1:(TK[11]?:Option Value)=some (.ref P1))
  (a2:nsIn K mainGlobals "split_column"=some (some (.ref f2))) (l2:K.lookup f2=some ⟨WS,WU,.func TM,J4⟩) (h2:TM.code=.ref c2) (m2:K.lookup c2=some ⟨WT,WV,.fields TN,WW⟩) (v2:(TN[11]?:Option Value)=some (.ref P2))
  (a3:nsIn K mainGlobals "join_columns"=some (some (.ref f3))) (l3:K.lookup f3=some ⟨WX,WZ,.func TQ,W1⟩) (h3:TQ.code=.ref c3) (m3:K.lookup c3=some ⟨WY,W0,.fields Pm,W2⟩) (v3:(Pm[11]?:Option Value)=some (.ref P3))
  (a4:nsIn K mainGlobals "do_columns"=some (some (.ref f4))) (l4:K.lookup f4=some ⟨W3,W5,.func TR,W7⟩) (h4:TR.code=.ref c4) (m4:K.lookup c4=some ⟨W4,W6,.fields TU,W8⟩) (v4:(TU[11]?:Option Value)=some (.ref P4))
  (a5:nsIn K mainGlobals "more_columns"=some (some (.ref f5))) (l5:K.lookup f5=some ⟨W9,Xb,.func TV,Xd⟩) (h5:TV.code=.ref c5) (m5:K.lookup c5=some ⟨Xa,Xc,.fields TX,Xe⟩) (v5:(TX[11]?:Option Value)=some (.ref P5))
  (a6:nsIn K mainGlobals "compare_columns"=some (some (.ref f6))) (l6:K.lookup f6=some ⟨Xf,Xh,.func TY,Xj⟩) (h6:TY.code=.ref c6) (m6:K.lookup c6=some ⟨Xg,Xi,.fields TZ,Xk⟩) (v6:(TZ[11]?:Option Value)=some (.ref P6))
  (a7:nsIn K mainGlobals "least_and_greatest"=some (some (.ref f7))) (l7:K.lookup f7=some ⟨Xl,Xn,.func T1,Xp⟩) (h7:T1.code=.ref c7) (m7:K.lookup c7=some ⟨Xm,Xo,.fields T2,Xq⟩) (v7:(T2[11]?:Option Value)=some (.ref P7)) (nd:[P0,P1,P2,P3,P4,P5,P6,P7].Nodup) :
  ∃ (c0 P0 c1 P1 c2 P2 c3 P3 c4 P4 c5 P5 c6 P6 c7 P7:Addr),tabIn K "cast_column"=some (c0,P0)∧tabIn K "round_column"=some (c1,P1)∧tabIn K "split_column"=some (c2,P2)∧tabIn K "join_columns"=some (c3,P3)∧tabIn K "do_columns"=some (c4,P4)∧tabIn K "more_columns"=some (c5,P5)∧tabIn K "compare_columns"=some (c6,P6)∧tabIn K "least_and_greatest"=some (c7,P7)∧[P0,P1,P2,P3,P4,P5,P6,P7].Nodup :=
 ⟨c0,P0,c1,P1,c2,P2,c3,P3,c4,P4,c5,P5,c6,P6,c7,P7,qy a0 l0 h0 m0 v0,qy a1 l1 h1 m1 v1,qy a2 l2 h2 m2 v2,qy a3 l3 h3 m3 v3,qy a4 l4 h4 m4 v4,qy a5 l5 h5 m5 v5,qy a6 l6 h6 m6 v6,qy a7 l7 h7 m7 v7,nd⟩
theorem A9 {C:Addr} {qi y1 y2 y3:Str} (X:K.In h) (G:h.Ns mainGlobals mg) (aC:nsIn K mainGlobals x=some (some (.ref C))) (pg:plainGet K C Str.empty=true) (hd:hasDictIn K C=true) (po:plainOver K C=true) (sa:findIn K (.ref C) "__setattr__"=some (some (.builtin "object.__setattr__")))
  (n1:findIn K (.ref C) y1=some none) (n2:findIn K (.ref C) y2=some none) (n3:findIn K (.ref C) y3=some none) (mk:makesIn K C=true) (a1:findIn K (.ref C) "__init__"=some (some (.ref f))) (i1:isFn K (.ref f)=true) (kc:keepIn K (.ref C)=true)
  (l1:K.lookup f=some ⟨oc,od,.func (fnOf "__init__" qi (l9 st) (gZ st) (ak st) .none kV dc pm an cd ct),sl⟩) (c1:codeIn K cd qi=true) (k1:keepIn K (.ref f)=true)
  (b:∀ (kV doc pm:Value) (an:Option Addr) (bJ ct:Value) (us:List Value),us.length=ps.length→bindArgs (fnOf "__init__" qi (l9 st) (gZ st) (ak st) .none kV doc pm an bJ ct) ⟨us,[]⟩=pure (ps.zip us)) :
  ∃ C f fd,mg x=some (.ref C)∧GP K C∧fL K C y1∧fL K C y2∧fL K C y3∧Mk K C f∧F0 K "__init__" qi st f fd∧Binds K fd ps [] :=
 ⟨C,f,_,mg_of X G aC,⟨pg,hd,po,sa⟩,n1,n2,n3,⟨mk,a1,i1,kc⟩,Ah (st:=st) l1 c1 k1,(Ah (st:=st) l1 c1 k1).binds b⟩
theorem K1 {CF CC CT c0 P0 c1 P1 c2 P2 c3 P3 c4 P4 c5 P5 c6 P6 c7 P7:Addr}:∀ p∈tabs ⟨CF,CC,CT,P0,P1,P2,P3,P4,P5,P6,P7⟩,∃ q∈[(c0,P0),(c1,P1),(c2,P2),(c3,P3),(c4,P4),(c5,P5),(c6,P6),(c7,P7)],q.2=p.1:=by
 intro p hp;unfold tabs at hp;simp only [List.mem_cons,List.not_mem_nil,or_false] at hp;rcases hp with rfl | rfl | rfl | rfl | rfl | rfl | rfl | rfl
 ·exact ⟨(c0,P0),by simp,rfl⟩
 ·exact ⟨(c1,P1),by simp,rfl⟩
 ·exact ⟨(c2,P2),by simp,rfl⟩
 ·exact ⟨(c3,P3),by simp,rfl⟩
 ·exact ⟨(c4,P4),by simp,rfl⟩
 ·exact ⟨(c5,P5),by simp,rfl⟩
 ·exact ⟨(c6,P6),by simp,rfl⟩
 ·exact ⟨(c7,P7),by simp,rfl⟩
end
end NK
open PySem PySem.W PyProof.Rows
theorem PySem.Challenge.cw_ninekinds_s01_answers_holds : PySem.Challenge.rw_ninekinds_s01_answers.Holds := by
 refine holds_os (d:=NK.d9) (kwd:=[]) (XP:=fun _ _=>True) (YP:=fun w h=>(NK.K9 w.params).In h) NK.LA (fun w s e=>by rw [show s.heap=NK.H1 w.params from e];exact NK.Ub _) (fun w h h' x k=>Frag.In.keeps x k) (fun _ _=>trivial) (fun _ _ _ _ _=>trivial) NK.PY NK.PZ NK.P8 (fun s e=>recFacts_of e) os_shapes NK.T9 NK.Uc NK.Ua ⟨[.list []],by decide +kernel,by decide +kernel⟩ ?_
 k_fillS
 intro w eg cF mg mb G Y fa o pm cd doc dV kV ho hd nW hD Xr hg args vals as Jp Xs X8 OT Nu;have KX:(NK.K9 w.params).In cF.heap:=Y;have GG:=G.T.g;obtain ⟨c0,P0,c1,P1,c2,P2,c3,P3,c4,P4,c5,P5,c6,P6,c7,P7,T3,Lu,PK,T4,T5,T6,T7,T8,Ly⟩:=NK.Sd KX (by k_is) (by k_is) (by exact rfl) (by k_is) (by exact rfl) (by k_is) (by k_is) (by exact rfl) (by k_is) (by exact rfl) (by k_is) (by k_is) (by exact rfl) (by k_is) (by exact rfl) (by k_is) (by k_is) (by exact rfl) (by k_is) (by exact rfl) (by k_is) (by k_is) (by exact rfl) (by k_is) (by exact rfl) (by k_is) (by k_is) (by exact rfl) (by k_is) (by exact rfl) (by k_is) (by k_is) (by exact rfl) (by k_is) (by exact rfl) (by k_is) (by k_is) (by exact rfl) (by k_is) (by exact rfl) (by decide);have RQ:=tab_of (x:="cast_column") G.T KX (by rfl) T3;have PL:=tab_of (x:="round_column") G.T KX (by rfl) Lu;have FZ:=tab_of (x:="split_column") G.T KX (by rfl) PK;have Ii:=tab_of (x:="join_columns") G.T KX (by rfl) T4;have PJ:=tab_of (x:="do_columns") G.T KX (by rfl) T5;have PN:=tab_of (x:="more_columns") G.T KX (by rfl) T6;have Xt:=tab_of (x:="compare_columns") G.T KX (by rfl) T7;have Xu:=tab_of (x:="least_and_greatest") G.T KX (by rfl) T8;obtain ⟨CF,fF,Ya,mF,i8,Xv,Xw,Xx,MF,FF,bF⟩:=NK.A9 (x:="Finite") (y1:="sign") (y2:="size") (y3:="power") (qi:="Finite.__init__") (st:=NK.iI) (ps:=["self","sign","size","power"]) KX GG (by k_is) (by k_is) (by k_is) (by k_is) (by k_is) (by k_is) (by k_is) (by k_is) (by k_is) (by k_is) (by k_is) (by k_is) (by k_is) (by k_is) (by k_is) (fun _ _ _ _ _ _ us hl=>match us,hl with | [_,_,_,_],_=>rfl);obtain ⟨CC,fC,Yb,mC,DG,Xy,Xz,Yc,MC,FC,bC⟩:=NK.A9 (x:="Column") (y1:="kind") (y2:="numbers") (y3:="numbers") (qi:="Column.__init__") (st:=NK.iT) (ps:=["self","kind","numbers"]) KX GG (by k_is) (by k_is) (by k_is) (by k_is) (by k_is) (by k_is) (by k_is) (by k_is) (by k_is) (by k_is) (by k_is) (by k_is) (by k_is) (by k_is) (by k_is) (fun _ _ _ _ _ _ us hl=>match us,hl with | [_,_,_],_=>rfl);obtain ⟨CT,fT,Tp,mT,ud,XA,XB,Yd,MT,FT,bT⟩:=NK.A9 (x:="Table") (y1:="rows") (y2:="columns") (y3:="columns") (qi:="Table.__init__") (st:=NK.jo) (ps:=["self"]) KX GG (by k_is) (by k_is) (by k_is) (by k_is) (by k_is) (by k_is) (by k_is) (by k_is) (by k_is) (by k_is) (by k_is) (by k_is) (by k_is) (by k_is) (by k_is) (fun _ _ _ _ _ _ us hl=>match us,hl with | [_],_=>rfl);have cT:=NK.ba (x:="NEAREST") (i:=0) KX GG;have xB:=NK.ba (x:="DOWN") (i:=1) KX GG;have Kw:=NK.ba (x:="UP") (i:=2) KX GG;have iL:=NK.ba (x:="TOWARDS_ZERO") (i:=3) KX GG;have jX:=NK.ba (x:="DOUBLE") (i:=8) KX GG;have iM:=NK.oR (x:="PLACES") (xs:=NK.tI NK.Dv) KX GG (by k_is) (by k_is) (by decide) (by repeat (first | exact .nil | refine .cons ⟨_,rfl⟩ ?_));have fE:=NK.oR (x:="LEAST_POWER") (xs:=NK.tI NK.pP) KX GG (by k_is) (by k_is) (by decide) (by repeat (first | exact .nil | refine .cons ⟨_,rfl⟩ ?_));have fV:=NK.oR (x:="MINUS") (xs:=NK.tI NK.IA) KX GG (by k_is) (by k_is) (by decide) (by repeat (first | exact .nil | refine .cons ⟨_,rfl⟩ ?_));have cj:=NK.oR (x:="INFINITY") (xs:=NK.tI NK.xA) KX GG (by k_is) (by k_is) (by decide) (by repeat (first | exact .nil | refine .cons ⟨_,rfl⟩ ?_));have bE:=NK.oR (x:="NO_NUMBER") (xs:=NK.tI NK.uF) KX GG (by k_is) (by k_is) (by decide) (by repeat (first | exact .nil | refine .cons ⟨_,rfl⟩ ?_));have pQ:=NK.oR (x:="BITS") (xs:=NK.tI NK.MN) KX GG (by k_is) (by k_is) (by decide) (by repeat (first | exact .nil | refine .cons ⟨_,rfl⟩ ?_));have iN:=NK.ba (x:="FIRST_BROKEN") (i:=6) KX GG;have md:=NK.ba (x:="LAST_KIND") (i:=8) KX GG;have dG:=NK.ba (x:="SUM_arithmetic") (i:=0) KX GG;have xO:=NK.ba (x:="LESS") (i:=1) KX GG;have nM:=NK.ba (x:="PRODUCT") (i:=2) KX GG;have pV:=NK.ba (x:="LESSER") (i:=3) KX GG;have jm:=NK.ba (x:="QUOTIENT") (i:=5) KX GG;have eI:=NK.ba (x:="FURTHEST_POWER") (i:=4096) KX GG;have gW:=NK.ba (x:="LAST_COLUMN") (i:=15) KX GG;have fo:=NK.ba (x:="GREATEST_ROWS") (i:=2048) KX GG;have tR:=NK.ba (x:="ALIKE") (i:=0) KX GG;have wt:=NK.ba (x:="BELOW") (i:=1) KX GG;have iu:=NK.ba (x:="UNORDERED") (i:=3) KX GG;have dJ:=NK.ba (x:="FINEST_POWER") (i:=-1074) KX GG;have fX:=NK.ba (x:="CLASS_NO_NUMBER") (i:=0) KX GG;have gz:=NK.ba (x:="CLASS_INFINITE") (i:=1) KX GG;have kE:=NK.ba (x:="CLASS_ZERO") (i:=2) KX GG;have fc:=NK.ba (x:="CLASS_BELOW_ZERO") (i:=3) KX GG;have kF:=NK.ba (x:="CLASS_TINY") (i:=4) KX GG;have gX:=NK.ba (x:="CLASS_WHOLE") (i:=5) KX GG;have me:=NK.ba (x:="CLASS_ODD") (i:=6) KX GG;have g0:=NK.ba (x:="CLASSES_worth") (i:=7) KX GG;have jY:=NK.ba (x:="WORD_BITS") (i:=64) KX GG;have dB:=NK.ba (x:="DONE") (i:=0) KX GG;have bb:=NK.ba (x:="WRONG_ARGUMENT") (i:=-2) KX GG;have eQ:=NK.ba (x:="NOT_THERE") (i:=-3) KX GG;have fG:=NK.ba (x:="UNFIT_KINDS") (i:=-4) KX GG;have mf:=NK.ba (x:="NONE_LEFT") (i:=-5) KX GG;have kG:=NK.ba (x:="MOST_PARTS") (i:=15) KX GG;have mh:=NK.ba (x:="NO_COLUMN") (i:=4294967295) KX GG;have wu:=NK.ba (x:="BEGIN") (i:=0) KX GG;have B8:=NK.ba (x:="PUT") (i:=1) KX GG;have EN:=NK.ba (x:="GET") (i:=2) KX GG;have Az:=NK.ba (x:="CAST") (i:=3) KX GG;have wA:=NK.ba (x:="WHOLE") (i:=4) KX GG;have AA:=NK.ba (x:="REST") (i:=5) KX GG;have wB:=NK.ba (x:="SPLIT") (i:=6) KX GG;have AB:=NK.ba (x:="JOIN") (i:=7) KX GG;have KD:=NK.ba (x:="DO") (i:=8) KX GG;have AD:=NK.ba (x:="MORE") (i:=9) KX GG;have qL:=NK.ba (x:="COMPARE") (i:=10) KX GG;have g6:=NK.ba (x:="CLASSES_table") (i:=11) KX GG;have mi:=NK.ba (x:="SUM_table") (i:=12) KX GG;have AE:=NK.ba (x:="ENDS") (i:=13) KX GG;have tS:=NK.ba (x:="BLANK") (i:=14) KX GG;have pW:=NK.ba (x:="CHOOSE") (i:=15) KX GG;have xP:=NK.ba (x:="KEEP") (i:=16) KX GG;have xQ:=NK.ba (x:="PICK") (i:=17) KX GG;have mj:=NK.oR (x:="ARGUMENTS") (xs:=NK.tI [1,2,3,4,4,4,3,3,4,4,4,1,1,1,2,4,1,0,0]) KX GG (by k_is) (by k_is) (by decide) (by repeat (first | exact .nil | refine .cons ⟨_,rfl⟩ ?_));have vx:mg "max"=none:=mg_none_of KX GG (by k_is);have xC:mg "min"=none:=mg_none_of KX GG (by k_is);have zG:mg "abs"=none:=mg_none_of KX GG (by k_is);have kz:mg "len"=none:=mg_none_of KX GG (by k_is);have xD:mg "all"=none:=mg_none_of KX GG (by k_is);have Ar:mg "list"=none:=mg_none_of KX GG (by k_is);have EO:mg "any"=none:=mg_none_of KX GG (by k_is);have B9:mg "sum"=none:=mg_none_of KX GG (by k_is);have oh:mg "range"=none:=mg_none_of KX GG (by k_is);have jZ:mg "enumerate"=none:=mg_none_of KX GG (by k_is);have T:NK.Ty (L2.U4 KX) mg ⟨CF,CC,CT,P0,P1,P2,P3,P4,P5,P6,P7⟩:={ cT:=cT,xB:=xB,Kw:=Kw,iL:=iL,iM:=iM,fE:=fE,fV:=fV,cj:=cj,bE:=bE,pQ:=pQ,iN:=iN,md:=md,vx:=vx,xC:=xC,zG:=zG,kz:=kz,xD:=xD,Ar:=Ar,i8:=i8,uG:=Xv,uH:=Xw,uI:=Xx,jX:=jX,dG:=dG,xO:=xO,nM:=nM,pV:=pV,jm:=jm,eI:=eI,gW:=gW,fo:=fo,tR:=tR,wt:=wt,iu:=iu,dJ:=dJ,fX:=fX,gz:=gz,kE:=kE,fc:=fc,kF:=kF,gX:=gX,me:=me,g0:=g0,jY:=jY,dB:=dB,bb:=bb,eQ:=eQ,fG:=fG,mf:=mf,kG:=kG,mh:=mh,wu:=wu,B8:=B8,EN:=EN,Az:=Az,wA:=wA,AA:=AA,wB:=wB,AB:=AB,KD:=KD,AD:=AD,qL:=qL,g6:=g6,mi:=mi,AE:=AE,tS:=tS,pW:=pW,xP:=xP,xQ:=xQ,mj:=mj,EO:=EO,B9:=B9,oh:=oh,jZ:=jZ,DG:=DG,Ca:=Xy,DH:=Xz,ud:=ud,AF:=XA,nN:=XB };refine NK.GF (Z:=⟨CF,CC,CT,P0,P1,P2,P3,P4,P5,P6,P7⟩) (tbs:=[(c0,P0),(c1,P1),(c2,P2),(c3,P3),(c4,P4),(c5,P5),(c6,P6),(c7,P7)]) KX GG G.T.b G.T.builtins G.T.nolimit hg Jp OT ?_ ?_ (by rfl) G.T.bmain Xr ?_
 ·exact List.forall_mem_cons.mpr ⟨RQ,List.forall_mem_cons.mpr ⟨PL,List.forall_mem_cons.mpr ⟨FZ,List.forall_mem_cons.mpr ⟨Ii,List.forall_mem_cons.mpr ⟨PJ,List.forall_mem_cons.mpr ⟨PN,List.forall_mem_cons.mpr ⟨Xt,List.forall_mem_cons.mpr ⟨Xu,fun _ h=>nomatch h⟩⟩⟩⟩⟩⟩⟩⟩
 ·exact NK.K1
 ·intro base k1 k2 k3 k4;have bG:=NK.Gc (P:=NK.RW.prog) (w:=w) (base:=base) (CI:=0) T.toTx mF MF FF bF;have bz:=NK.Gi (P:=NK.RW.prog) (w:=w) (base:=base) T mC MC FC bC;have A8:NK.Lv NK.RW.prog w (NK.K9 w.params) mg base ⟨CF,CC,CT,P0,P1,P2,P3,P4,P5,P6,P7⟩:=⟨fT,Tp,mT,MT,bT,NK.y4 T FT⟩;obtain ⟨_,_,D⟩:=NK.aK (x:="has_list") (st:=NK.sP) (ps:=["call"]) KX GG;have sS:=NK.Ct (P:=NK.RW.prog) (w:=w) (base:=base) T D;obtain ⟨_,_,D⟩:=NK.aK (x:="tell_table") (st:=NK.kK) (ps:=["table"]) KX GG;have oQ:=NK.ze (P:=NK.RW.prog) (w:=w) (base:=base) T D;obtain ⟨_,_,D⟩:=NK.aK (x:="are_there") (st:=NK.mo) (ps:=["table","taken"]) KX GG;have cU:=NK.AV (P:=NK.RW.prog) (w:=w) (base:=base) T D;obtain ⟨_,_,D⟩:=NK.aK (x:="count_missing") (st:=NK.g8) (ps:=["numbers"]) KX GG;have bO:=NK.uW (P:=NK.RW.prog) (w:=w) (base:=base) T D;obtain ⟨_,_,D⟩:=NK.aK (x:="are_columns") (st:=NK.jH) (ps:=["numbers"]) KX GG;have aL:=NK.yd (P:=NK.RW.prog) (w:=w) (base:=base) T D;obtain ⟨_,_,D⟩:=NK.aK (x:="is_set") (st:=NK.yc) (ps:=["mask","row"]) KX GG;have i6:=NK.Gj (P:=NK.RW.prog) (w:=w) (base:=base) T D;obtain ⟨_,_,D⟩:=NK.aK (x:="blank_column") (st:=NK.i3) (ps:=["table","c","n","mask"]) KX GG;have lN:=NK.wc T cU bO aL i6 bz D;obtain ⟨_,_,D⟩:=NK.aK (x:="is_broken") (st:=NK.pN) (ps:=["kind"]) KX GG;have aV:=NK.Av (P:=NK.RW.prog) (w:=w) (base:=base) T.toTx D;obtain ⟨_,_,D⟩:=NK.aK (x:="refusal_of_taken") (st:=NK.fg) (ps:=["table","taken","only_broken"]) KX GG;have aQ:=NK.rh T cU aV D;obtain ⟨_,_,D⟩:=NK.aK (x:="choose_columns") (st:=NK.gF) (ps:=["table","a","b","n","to","mask"]) KX GG;have jA:=NK.t8 T aQ aL i6 bz D;obtain ⟨_,_,D⟩:=NK.aK (x:="take_rows") (st:=NK.ml) (ps:=["table","which"]) KX GG;have iB:=NK.AO T bz D;obtain ⟨_,_,D⟩:=NK.aK (x:="keep_rows") (st:=NK.mq) (ps:=["table","n","mask"]) KX GG;have qu:=NK.A0 T iB i6 D;obtain ⟨_,_,D⟩:=NK.aK (x:="pick_rows") (st:=NK.mr) (ps:=["table","which"]) KX GG;have qv:=NK.A3 T iB D;obtain ⟨_,_,D⟩:=NK.aK (x:="answer_of_rows") (st:=NK.jy) (ps:=["table","call","given","listed"]) KX GG;have jB:=NK.uc T oQ lN jA qu qv D;obtain ⟨_,_,D⟩:=NK.aK (x:="mask_of") (st:=NK.uV) (ps:=["holds"]) KX GG;have kO:=NK.DM (P:=NK.RW.prog) (w:=w) (base:=base) T D;obtain ⟨_,_,D⟩:=NK.aK (x:="is_kind") (st:=NK.uC) (ps:=["kind"]) KX GG;have gG:=NK.DA (P:=NK.RW.prog) (w:=w) (base:=base) T.toTx D;obtain ⟨_,_,D⟩:=NK.aK (x:="get_column") (st:=NK.iX) (ps:=["table","c","kind","n"]) KX GG;have oN:=NK.zb T kO aL gG bO D;obtain ⟨_,_,D⟩:=NK.aK (x:="begin_table") (st:=NK.mW) (ps:=["table","rows"]) KX GG;have nh:=NK.yt (P:=NK.RW.prog) (w:=w) (base:=base) T D;obtain ⟨_,_,D⟩:=NK.aK (x:="put_column") (st:=NK.oG) (ps:=["table","c","kind","values"]) KX GG;have oO:=NK.za T aL gG bz D;obtain ⟨_,_,D⟩:=NK.aK (x:="answer_of_handing") (st:=NK.gP) (ps:=["table","call","given","values"]) KX GG;have gT:=NK.qr T oN nh oO D;obtain ⟨_,_,D⟩:=NK.aK (x:="made_of_rows") (st:=NK.gk) (ps:=["table","taken","make"]) KX GG;have M:NK.qc NK.RW.prog w (NK.K9 w.params) mg base ⟨CF,CC,CT,P0,P1,P2,P3,P4,P5,P6,P7⟩:=⟨_,_,D.2.1,D.1.kp,D.2.2,NK.vO T D.1⟩;obtain ⟨_,_,D⟩:=NK.aK (x:="is_infinite") (st:=NK.mE) (ps:=["kind","bits"]) KX GG;have az:=NK.xE (P:=NK.RW.prog) (w:=w) (base:=base) T.toTx D;obtain ⟨_,_,D⟩:=NK.aK (x:="exact_product") (st:=NK.ke) (ps:=["x","y"]) KX GG;have dX:=NK.uQ T bG D;obtain ⟨_,_,D⟩:=NK.aK (x:="leads_outward") (st:=NK.j8) (ps:=["sign","way"]) KX GG;have dW:=NK.uJ (P:=NK.RW.prog) (w:=w) (base:=base) T.toTx D;obtain ⟨_,_,D⟩:=NK.aK (x:="without_low_bits") (st:=NK.h9) (ps:=["size","drop","sign","way"]) KX GG;have bV:=NK.qW T.toTx dW D;obtain ⟨_,_,D⟩:=NK.aK (x:="with_sign") (st:=NK.pM) (ps:=["kind","sign","bits"]) KX GG;have bh:=NK.As (P:=NK.RW.prog) (w:=w) (base:=base) T.toTx D;obtain ⟨_,_,D⟩:=NK.aK (x:="bits_beyond_greatest") (st:=NK.eW) (ps:=["kind","sign","way"]) KX GG;have eY:=NK.nI T.toTx dW D;obtain ⟨_,_,D⟩:=NK.aK (x:="bits_of_finite") (st:=NK.jj) (ps:=["kind","number","way"]) KX GG;have aF:=NK.tM T.toTx bh bV eY D;obtain ⟨_,_,D⟩:=NK.aK (x:="is_no_number") (st:=NK.kX) (ps:=["kind","bits"]) KX GG;have aD:=NK.vI (P:=NK.RW.prog) (w:=w) (base:=base) T.toTx D;obtain ⟨_,_,D⟩:=NK.aK (x:="signed_size") (st:=NK.mJ) (ps:=["x","power"]) KX GG;have ek:=NK.xR (P:=NK.RW.prog) (w:=w) (base:=base) T D;obtain ⟨_,_,D⟩:=NK.aK (x:="exact_sum") (st:=NK.pT) (ps:=["x","y"]) KX GG;have iy:=NK.AH T ek bG D;obtain ⟨_,_,D⟩:=NK.aK (x:="sign_of") (st:=NK.uz) (ps:=["kind","bits"]) KX GG;have bt:=NK.Dw (P:=NK.RW.prog) (w:=w) (base:=base) T.toTx D;obtain ⟨_,_,D⟩:=NK.aK (x:="finite_of_bits") (st:=NK.ji) (ps:=["kind","bits"]) KX GG;have aA:=NK.tL T.toTx bG bt D;obtain ⟨_,_,D⟩:=NK.aK (x:="added") (st:=NK.Ax) (ps:=["kind","a","b"]) KX GG;have kI:=NK.IH T az aF aD iy aA D;obtain ⟨_,_,D⟩:=NK.aK (x:="is_zero") (st:=NK.uA) (ps:=["kind","bits"]) KX GG;have ck:=NK.Dx (P:=NK.RW.prog) (w:=w) (base:=base) T.toTx D;obtain ⟨_,_,D⟩:=NK.aK (x:="multiplied") (st:=NK.og) (ps:=["kind","a","b"]) KX GG;have gB:=NK.y0 T aF bt az bh dX ck aA D;obtain ⟨_,_,D⟩:=NK.aK (x:="multiplied_and_added") (st:=NK.eZ) (ps:=["kind","a","b","c"]) KX GG;have fh:=NK.nO T az dX aF aD kI aA iy gB D;obtain ⟨_,_,D⟩:=NK.aK (x:="more_columns") (st:=NK.gv) (ps:=["table","a","b","c","to"]) KX GG;have lJ:=NK.wa T aQ aL fh bz M Ly (NK.mD KX GG D T6 k4 (k3 (c5,P5) (by simp))) D;obtain ⟨_,_,D⟩:=NK.aK (x:="is_way") (st:=NK.xw) (ps:=["way"]) KX GG;have nS:=NK.Gb (P:=NK.RW.prog) (w:=w) (base:=base) T.toTx D;obtain ⟨_,_,D⟩:=NK.aK (x:="has_sign") (st:=NK.si) (ps:=["kind"]) KX GG;have jl:=NK.B6 (P:=NK.RW.prog) (w:=w) (base:=base) T.toTx D;obtain ⟨_,_,D⟩:=NK.aK (x:="greatest_whole") (st:=NK.jk) (ps:=["kind"]) KX GG;have dF:=NK.tP T.toTx jl D;obtain ⟨_,_,D⟩:=NK.aK (x:="whole_of_bits") (st:=NK.j9) (ps:=["kind","bits"]) KX GG;have bc:=NK.uK T.toTx dF D;obtain ⟨_,_,D⟩:=NK.aK (x:="least_whole") (st:=NK.mG) (ps:=["kind"]) KX GG;have mH:=NK.xJ T.toTx jl D;obtain ⟨_,_,D⟩:=NK.aK (x:="has_whole") (st:=NK.pO) (ps:=["kind","whole"]) KX GG;have p4:=NK.Aw T.toTx mH dF D;obtain ⟨_,_,D⟩:=NK.aK (x:="bits_of_whole") (st:=NK.kd) (ps:=["kind","whole"]) KX GG;have dY:=NK.uL (P:=NK.RW.prog) (w:=w) (base:=base) T.toTx D;obtain ⟨_,_,D⟩:=NK.aK (x:="bits_if_kind_has") (st:=NK.ib) (ps:=["kind","whole"]) KX GG;have c9:=NK.rd T p4 dY D;obtain ⟨_,_,D⟩:=NK.aK (x:="whole_of_finite") (st:=NK.iK) (ps:=["number","way"]) KX GG;have dn:=NK.sk T.toTx bV D;obtain ⟨_,_,D⟩:=NK.aK (x:="broken_as_whole") (st:=NK.iR) (ps:=["old","new","way","bits"]) KX GG;have iS:=NK.sC T c9 aD az dn aA D;obtain ⟨_,_,D⟩:=NK.aK (x:="finite_of_whole") (st:=NK.iJ) (ps:=["whole"]) KX GG;have iO:=NK.sj T.toTx bG D;obtain ⟨_,_,D⟩:=NK.aK (x:="bits_of_whole_number") (st:=NK.eX) (ps:=["kind","whole","way"]) KX GG;have cc:=NK.nK T.toTx iO aF D;obtain ⟨_,_,D⟩:=NK.aK (x:="broken_as_broken") (st:=NK.ic) (ps:=["old","new","way","bits"]) KX GG;have ie:=NK.rf T aD az aF bh aA bt D;obtain ⟨_,_,D⟩:=NK.aK (x:="cast_number") (st:=NK.mO) (ps:=["old","new","way","bits"]) KX GG;have m9:=NK.x6 T aV bc c9 iS cc ie D;obtain ⟨_,_,D⟩:=NK.aK (x:="cast_column") (st:=NK.gY) (ps:=["table","source","to","kind","way"]) KX GG;have ni:=NK.yB T aQ bO aL gG nS m9 bz M Ly (NK.mD KX GG D T3 k4 (k3 (c0,P0) (by simp))) D;obtain ⟨_,_,D⟩:=NK.aK (x:="whole_number") (st:=NK.k8) (ps:=["kind","way","parts","bits"]) KX GG;have cS:=NK.vL T aD az aA bV aF bG D;obtain ⟨_,_,D⟩:=NK.aK (x:="subtracted") (st:=NK.oa) (ps:=["kind","a","b"]) KX GG;have gC:=NK.yZ T kI D;obtain ⟨_,_,D⟩:=NK.aK (x:="rest_number") (st:=NK.mP) (ps:=["kind","way","parts","bits"]) KX GG;have fJ:=NK.x9 T az gC cS D;obtain ⟨_,_,D⟩:=NK.aK (x:="round_column") (st:=NK.gq) (ps:=["table","source","to","way","parts","make"]) KX GG;have eN:=NK.vV T aQ aL nS bz cS fJ M Ly (NK.mD KX GG D Lu k4 (k3 (c1,P1) (by simp))) D;obtain ⟨_,_,D⟩:=NK.aK (x:="whole_column") (st:=NK.lB) (ps:=["table","source","to","way","parts"]) KX GG;have lK:=NK.vW T eN cS D;obtain ⟨_,_,D⟩:=NK.aK (x:="rest_column") (st:=NK.mX) (ps:=["table","source","to","way","parts"]) KX GG;have nj:=NK.yC T eN fJ D;obtain ⟨_,_,D⟩:=NK.aK (x:="power_number") (st:=NK.k9) (ps:=["kind","bits"]) KX GG;have lD:=NK.vM T aD az ck aA cc bh D;obtain ⟨_,_,D⟩:=NK.aK (x:="part_number") (st:=NK.mQ) (ps:=["kind","bits"]) KX GG;have ng:=NK.ya T aD bt aF az ck aA bG D;obtain ⟨_,_,D⟩:=NK.aK (x:="split_column") (st:=NK.eM) (ps:=["table","source","power","part"]) KX GG;have lL:=NK.vX T aQ aL lD ng bz M Ly (NK.mD KX GG D PK k4 (k3 (c2,P2) (by simp))) D;obtain ⟨_,_,D⟩:=NK.aK (x:="joined_by_infinity") (st:=NK.gi) (ps:=["kind","part","power_sign"]) KX GG;have gj:=NK.o6 T bt ck bh az D;obtain ⟨_,_,D⟩:=NK.aK (x:="joined") (st:=NK.xZ) (ps:=["kind","part","power"]) KX GG;have yD:=NK.Gg T az aA dn aF aD gj bt bG D;obtain ⟨_,_,D⟩:=NK.aK (x:="join_columns") (st:=NK.gu) (ps:=["table","part","power","to"]) KX GG;have lM:=NK.vZ T aQ aL yD bz M Ly (NK.mD KX GG D T4 k4 (k3 (c3,P3) (by simp))) D;obtain ⟨_,_,D⟩:=NK.aK (x:="is_operation") (st:=NK.k0) (ps:=["op"]) KX GG;have lE:=NK.vK (P:=NK.RW.prog) (w:=w) (base:=base) T D;obtain ⟨_,_,D⟩:=NK.aK (x:="quotient") (st:=NK.sr) (ps:=["x","y","places"]) KX GG;have su:=NK.Cd T bG D;obtain ⟨_,_,D⟩:=NK.aK (x:="divided") (st:=NK.uO) (ps:=["kind","a","b"]) KX GG;have uS:=NK.DK T az ck aF bt bh su aA D;obtain ⟨_,_,D⟩:=NK.aK (x:="rank") (st:=NK.DD) (ps:=["kind","bits"]) KX GG;have k5:=NK.KH (P:=NK.RW.prog) (w:=w) (base:=base) T D;obtain ⟨_,_,D⟩:=NK.aK (x:="lesser") (st:=NK.xN) (ps:=["kind","a","b"]) KX GG;have xV:=NK.Gf T k5 D;obtain ⟨_,_,D⟩:=NK.aK (x:="greater") (st:=NK.uP) (ps:=["kind","a","b"]) KX GG;have uT:=NK.DL T k5 D;obtain ⟨_,_,D⟩:=NK.aK (x:="done_broken") (st:=NK.mI) (ps:=["kind","op","a","b"]) KX GG;have mN:=NK.xU T aD kI gC gB uS xV uT D;obtain ⟨_,_,D⟩:=NK.aK (x:="done_whole") (st:=NK.n9) (ps:=["op","a","b"]) KX GG;have om:=NK.yY (P:=NK.RW.prog) (w:=w) (base:=base) T D;obtain ⟨_,_,D⟩:=NK.aK (x:="done") (st:=NK.DC) (ps:=["kind","op","a","b"]) KX GG;have DZ:=NK.KI T aV dY mN om bc D;obtain ⟨_,_,D⟩:=NK.aK (x:="do_columns") (st:=NK.iZ) (ps:=["table","op","a","b","to"]) KX GG;have oP:=NK.zd T aQ lE aL DZ bz M Ly (NK.mD KX GG D T5 k4 (k3 (c4,P4) (by simp))) D;obtain ⟨_,_,D⟩:=NK.aK (x:="answer_of_making") (st:=NK.ij) (ps:=["table","call","given"]) KX GG;have ik:=NK.rk T lJ ni lK nj lL lM oP D;obtain ⟨_,_,D⟩:=NK.aK (x:="refusal_of_one") (st:=NK.ju) (ps:=["table","c"]) KX GG;have cf:=NK.t6 T aL cU D;obtain ⟨_,_,D⟩:=NK.aK (x:="numbers_in_order") (st:=NK.fe) (ps:=["kind","numbers"]) KX GG;have ig:=NK.rg T aV aD D;obtain ⟨_,_,D⟩:=NK.aK (x:="not_missing") (st:=NK.jI) (ps:=["numbers"]) KX GG;have dg:=NK.ye (P:=NK.RW.prog) (w:=w) (base:=base) T D;obtain ⟨_,_,D⟩:=NK.aK (x:="lowest_word") (st:=NK.mU) (ps:=["whole"]) KX GG;have er:=NK.yo (P:=NK.RW.prog) (w:=w) (base:=base) T D;obtain ⟨_,_,D⟩:=NK.aK (x:="end_word") (st:=NK.sH) (ps:=["kind","bits"]) KX GG;have oE:=NK.Ck T aV er bc D;obtain ⟨_,_,D⟩:=NK.aK (x:="place_in_order") (st:=NK.jr) (ps:=["kind","bits"]) KX GG;have gE:=NK.tY T aV k5 bc D;obtain ⟨_,_,D⟩:=NK.aK (x:="least_and_greatest") (st:=NK.cJ) (ps:=["kind","numbers"]) KX GG;have gw:=NK.pb T gE oE (NK.mD KX GG D T8 k4 (k3 (c7,P7) (by simp))) D;obtain ⟨_,_,D⟩:=NK.aK (x:="ends_of_column") (st:=NK.jw) (ps:=["table","c"]) KX GG;have jz:=NK.t7 T cf ig dg gw Ly D;obtain ⟨_,_,D⟩:=NK.aK (x:="is_comparison") (st:=NK.ki) (ps:=["op"]) KX GG;have ko:=NK.uZ (P:=NK.RW.prog) (w:=w) (base:=base) T D;obtain ⟨_,_,D⟩:=NK.aK (x:="is_infinite_of_any") (st:=NK.gm) (ps:=["kind","bits"]) KX GG;have cH:=NK.o8 T aV az D;obtain ⟨_,_,D⟩:=NK.aK (x:="finest_size") (st:=NK.mR) (ps:=["kind","bits"]) KX GG;have df:=NK.yk T aV ek bc aA D;obtain ⟨_,_,D⟩:=NK.aK (x:="worth_of") (st:=NK.sG) (ps:=["kind","bits"]) KX GG;have oB:=NK.Ci T cH df bt D;obtain ⟨_,_,D⟩:=NK.aK (x:="is_no_number_of_any") (st:=NK.fN) (ps:=["kind","bits"]) KX GG;have bY:=NK.oA T aV aD D;obtain ⟨_,_,D⟩:=NK.aK (x:="holds") (st:=NK.AQ) (ps:=["op","kind_a","a","kind_b","b"]) KX GG;have AX:=NK.IT T oB bY D;obtain ⟨_,_,D⟩:=NK.aK (x:="compare_columns") (st:=NK.dq) (ps:=["table","op","a","b","n"]) KX GG;have i7:=NK.sN T cU kO ko aL AX M Ly (NK.mD KX GG D T7 k4 (k3 (c6,P6) (by simp))) D;obtain ⟨_,_,D⟩:=NK.aK (x:="classes_by_divisor") (st:=NK.gn) (ps:=["size"]) KX GG;have gp:=NK.o9 (P:=NK.RW.prog) (w:=w) (base:=base) T D;obtain ⟨_,_,D⟩:=NK.aK (x:="is_tiny") (st:=NK.uM) (ps:=["kind","bits"]) KX GG;have u3:=NK.DI (P:=NK.RW.prog) (w:=w) (base:=base) T D;obtain ⟨_,_,D⟩:=NK.aK (x:="classes_of") (st:=NK.oz) (ps:=["kind","bits"]) KX GG;have oC:=NK.y6 T bY cH df gp aV u3 D;obtain ⟨_,_,D⟩:=NK.aK (x:="class_counts") (st:=NK.ly) (ps:=["kind","numbers"]) KX GG;have lG:=NK.vP T oC D;obtain ⟨_,_,D⟩:=NK.aK (x:="classes_of_column") (st:=NK.gO) (ps:=["table","c"]) KX GG;have gR:=NK.qk T cf dg lG bO D;obtain ⟨_,_,D⟩:=NK.aK (x:="double_of_sum") (st:=NK.dZ) (ps:=["kind","numbers"]) KX GG;have kj:=NK.u4 T aF bt bh aD az df bG D;obtain ⟨_,_,D⟩:=NK.aK (x:="words_of_sum") (st:=NK.iW) (ps:=["kind","numbers"]) KX GG;have lH:=NK.vQ T aV er kj bc D;obtain ⟨_,_,D⟩:=NK.aK (x:="sum_of_column") (st:=NK.kl) (ps:=["table","c"]) KX GG;have kq:=NK.u6 T cf dg lH D;obtain ⟨_,_,D⟩:=NK.aK (x:="answer_of_looking") (st:=NK.gQ) (ps:=["table","call","given"]) KX GG;have gU:=NK.qt T jz i7 gR kq D;obtain ⟨_,_,D⟩:=NK.aK (x:="answer_of") (st:=NK.ql) (ps:=["table","call","given","listed"]) KX GG;have qx:=NK.A5 T jB gT ik gU D;obtain ⟨_,_,D⟩:=NK.aK (x:="answers") (st:=NK.u7) (ps:=["calls"]) KX GG;have GH:=NK.D9 T sS qx A8 D;exact GH
