import PyProof.Rows.All
import Wide.All
import OpenK.AllK
import Wide.FinOn
import PyProof.EqAt
import PyProof.EqKinds
import PyProof.TupleCall
import KE.BitLaws
import Open.SpecLaws
import KE.OsHead
import KE.OsGo
import Open.Tops
import KE.KRevIter
import KE.KMinKey
import PySem.Challenge.RW_framekeep_s01_answers
set_option linter.all false
set_option Elab.async false
set_option maxRecDepth 100000
section
set_option maxHeartbeats 0
structure PySem.W.Fast:Prop where(tw8632820021539565945 tw4800888767989124929 tw16417814441885384074 tw16781993821953470292 tw392848361180836099 tw13055587894358348454 tw2558453223198418827 tw3129767860372599074 tw16255841042001843353 tw16115240493212037696 tw7622003285898335440 tw17008798340495224512 tw17542320288895938248 tw16039958176064903234 tw789597760626321807 tw11454732948154513478 tw1998078645737279532 tw16254398389227777642 tw8888269428773598953 tw16392535185752054559 tw5186867206415524248 tw10346997995598351181 tw1023327600762878729 tw13808512491548369684 tw17501445035159614353 tw5271571001299944920 tw4057272251407460720 tw2580330301676670286 tw15585915976407620802 tw18228230186184595301 tw2780864017445675977 tw9622134571904548649 tw3223028490524089142 tw16233489458774924371 tw8462555889606328816 tw4481646415371772850 tw17308287957523608744 tw9855350169036440549 tw16180485052078953189 tw309558164229141003 tw9463084093270041614 tw12593366911806365046 tw17174398604901501 tw593154161239807349 tw8928211410533301956 tw6227397851690766308 tw11984684203465598426 tw15563151163341248698 tw13828669623640460029 tw6527323338155185875 tw435626206316607344 tw2859169827793562631 tw17830223648618266926 tw1599109511215355113 tw4465001371569168724 tw7793186643737293219 tw12197691557846030457 tw11779378607533905691 tw15176837279524226489 tw1115152228501843398 tw14009710968695718556 tw7494392444694859472 tw11748490435989375877 tw708633435576277905 tw11975109067359948330 tw8952748516319345598 tw2962628025727858866 tw11186879670510584712 tw10886130413950488897 tw15484406154805325491 tw13712039247424198524 tw15418686099946527272 tw3905959036303526326 tw13254873660647625849 tw11157865615647520782 tw11661759595263590503 tw11492538793682245395 tw1346031767809314864 tw6168491156848564842 tw13799214215329200372 tw11848052334452819373 tw10756688250068803058 tw17735916753482363243 tw18419825334012751157 tw16671769255390672067 tw10918529252159416827 tw3572306983029775310 tw3352916689684897803 tw3055981537312078362 tw6561076195511282648 tw1563789891762635815 tw11102491459330525279 tw6217698405564402062 tw1636555641455145908 tw3184055084203843130 tw9838859749439201973 tw319555338667907220 tw3222086975871703386 tw15902237803877568098 tw5500462820492210755 tw13172544938115244278 tw4805237275735891490 tw4996844450624648172 tw48686695794242575 tw6853908860798557799 tw12488253793062550128 tw5681464780436839700 tw8347078723179253524 tw9696033064955697665 tw6693239864845647341 tw11688260298200695024 tw9847704575213224892 tw16367717004093552785 tw4001661024397752410 tw10873150875018211745 tw16102801825892333933 tw5358329551657015751 tw10089616870776879969 tw10585526650190243202 tw5918666484515759073 tw2127116463357391654 tw15007136737142558984 tw8450359248202570292 tw9874209772998799625 tw4174675861434561607 tw2076673252539560796 tw17195834753408276101 tw13574551886524554995 tw11691180796951072648 tw8184227298896362405 tw13248288177647199948 tw10988162821091254761 tw1104920500084551841 tw12235868528390881852 tw8483105620745892392 tw9286630928797966865 tw311685879581416826 tw3834165070575898882 tw11111744834848014102 tw584141817893985664 tw5498931631173307666 tw10895429292365701931 tw10401990680948055906 tw16163680277015801030 tw8108719756624794944 tw11338365945279348717 tw9823673297365883038 tw6174661471008753751 tw2206674617340209263 tw17561122773858037702 tw12958621474109998818 tw11369436224715719072 tw1965583020023025540 tw14569029988729114219 tw8596445112770122805 tw12801800210589150322 tw6836888416215140252 tw13624700530822540634 tw14574512368588812840 tw17788880172792000847 tw13367696341995975493 tw13973205133220614617 tw5139633004312951680 tw11448742890223683347 tw18147923242224507009 tw5121661107643167408 tw16313131488411888676 tw17133756611240389041 tw13573649647317781166 tw4251988979465120640 tw2978628016885725288 tw14951384679242750910 tw14407903256519687926 tw17055958765929397628 tw788645269016334503 tw6196829130508260274 tw7731243012876388369 tw3717779660887542868 tw206732023590043695 tw16895718298988567443 tw12527680147729488072 tw15259509715645699510 tw7465727540346004307 tw16507742586757394042 tw14563211494612403951 tw2421158283128276327 tw12496842997366738230 tw11830249563750614653 tw15030771742963290759 tw13255872071489105159 tw10600406659224538076 tw10768047306642739698 tw7286652661450194218 tw16627717674019773832 tw9020057485146375715 tw13908371260371463234 tw15536513308208734960 tw14624243878545397627 tw17816399653162036658 tw3542792289930221973 tw5768501692806272287 tw12841172806580316672 tw16703716321414719223 tw14369625400233209234 tw3537941682728066994 tw16644992563165524330 tw16444194056437649628 tw18411532461615902537 tw406846640849241903 tw13332852338373324403 tw7087271072501419855 tw4478501002940122948 tw13088384287575866451 tw246387234154415651 tw4361125656219466673 tw16448785977455733165 tw8129489577441653627 tw12661049965392215617 tw1852180008994642156 tw12815578351764122133 tw9755496517167030568 tw4283523564302445719 tw5912449074760382424 tw3758782181898723706 tw11216164752880912310 tw11977173093065910353 tw15178945573846111014 tw6675604519141323197 tw11117445812460620440 tw6622135302517430502 tw9190010906146042411 tw9004611275578555338 tw12112879513950476808 tw7599680823732512326 tw7223095733880219677 tw6734849453552688564 tw8759058849333832633 tw16546104904528094742 tw9498228343905060117 tw16449987222197201405 tw1532961823045090830 tw11297272167002741671 tw17257781062815145199 tw4556685651435346171 tw9956176830716788532 tw8143978469411464092 tw10866688554045351714 tw4112053253377610351 tw10354263622649633236 tw6385237720950883033 tw16865509505306713722 tw12056346347880187432 tw3883410547071479936 tw6101794914781145873 tw15301854003163645778 tw11188340022127115815 tw13174425456740409663 tw11966416689926063681 tw16840424161416107977 tw1774147614146457137 tw2257922373525736545 tw3216117607194981906 tw14664794304714113161 tw8963706661146387281 tw1904958470706434309 tw9355585569579117136 tw13769493727825573419 tw11655251739350833773 tw88951624514864961 tw16315043730671147738 tw5539215385683964122 tw17865900144851759919 tw8605843410304336907 tw4664770484603832080 tw5897004601692437730 tw4120436156372486140 tw8401443395822054238 tw15302857039847169495 tw2365579239093697023 tw16742610520011708688 tw14172686420147290791 tw12591378939658819524 tw12191630553014149410 tw12901475559525320308 tw18035930347264632125 tw11865338131891546999 tw16521228487361109960 tw2000785555065253899 tw8484910901351229913 tw16327096757559431095 tw18147806824838689118 tw10689065863714551575 tw12429763335160485127 tw12775737630657923293 tw16864031718337921310 tw10544765309880321730 tw6890351504832112596 tw17220816654056083905 tw4914770089350104493 tw12647420264635992537 tw7875118161524022348 tw239970510327906464 tw2264411206990649955 tw7060475149471807042 tw475872891756518018 tw13787258160693333035 tw10287223331200586665 tw5407167204347062625 tw17909291492413470969 tw5177853912573796 tw8672060155140077182 tw5390563228312902539 tw1257837208490536663 tw14218873827578616898 tw11697351439152574717 tw9429656051502448864 tw6553440986765616589 tw8097811588498672230 tw13832087547014170943 tw16686850062794047086 tw15741894543626131660 tw10023356557140562392 tw394707929166619212 tw4390195989942380917 tw3852633777274326999 tw8438180808749070735 tw16083473463210421858 tw1757384191481008015 tw13726264320044913291 tw9824427621270614049 tw1233770109334016127 tw2473458917887403971 tw9790113313602042497 tw6267392039186307189 tw7545453670624027617 tw4712961806020885153 tw1244848691932658896 tw8679496049953859821 tw5172873824759052389 tw12026095654445335744 tw963966697558216501 tw5360091588959723825 tw13859870573994167172 tw5545943152274794209 tw9636958669269483238 tw8201920753262730850 tw2842156328765119447 tw2751677275665357524 tw12993437470260510503 tw4107044503481480838 tw2095032494824471536 tw12697245042904120304 tw5467823280573249240 tw3909073247425236442 tw14939713779028020828 tw13590870974416972813 tw12870755326679053758 tw1212358857001135629 tw7685949232245152115 tw16698689882059351459 tw1365643252937495164 tw10735665296796880959 tw3663859877213933859 tw3068651747445644057 tw16436329227984925024 tw14091262711897946140 tw13709217359018609313 tw8829988067160785580 tw2359259168582285404 tw18243078395057947298 tw13775883041665191092 tw2297663232014250521 tw13676170047981001363 tw13309744222886177783 tw15964041948721312375 tw1231912662654789197 tw9513377343180184144 tw9306555999928092331 tw11418572941022638942 tw13815071778248329743 tw13294722493017337602 tw1905772203481599526 tw13158628905532856353 tw12695731556846408718 tw11489856585261380022 tw12944040450646350177 tw9142514625502011402 tw17176057900769006666 tw3135369627941191989 tw15763387964165540111 tw3930196904676341415 tw15986040935336720929 tw1088313200485623686 tw3652479331834851091 tw4993315282978365698 tw18008690824570642681 tw8622686061594521380 tw16224285814017989099 tw8737213354600676383 tw8407226501021743375 tw1801267412234140250 tw5788204473223973208 tw16806390322464307952 tw11417629631682569598 tw12911447877560959206 tw5438420506860424400 tw14640650900510780824 tw11810136509266377749 tw6710147229943948980 tw2688406772043981825 tw16417890638488893870 tw16098313094250600158 tw144358858991577286 tw14239879603071466876 tw12911012606405382958 tw4340745402977590773 tw17082688076803984945 tw415622471836077414 tw2192436317284671476 tw4786264732434104848 tw4238698242822656103 tw2236457466782828971 tw17925231626165231585 tw1582173516228871956 tw13224613866037398139 tw10571340634801727230 tw7149346436655716072 tw10405165030921033936 tw7780328878939157708 tw6392605443033913286 tw6384643481901947826 tw17820654764756255546 tw17479653398863731735 tw8291627525567407867 tw18346478467203656120 tw17363703567322443581 tw16122108536607304551 tw15979371585164667677 tw14648718757113805069 tw802645413960178138 tw2494497179403377923 tw15037453190777852331 tw11699050818631923831 tw11358156524562219764 tw2840551374051877113 tw5714461950367994074 tw5362474550595115671 tw4307902166805345004 tw3031286205281384764 tw16499760573479857330 tw15934851540713338742 tw12660472040530766217 tw9782347130046307001 tw629250316388468363 tw5681839413944238752 tw3703253267050481903 tw6522543611444982055 tw11655364717832422376 tw16123037219969064092 tw18347476191153354199 tw12607715278337753558 tw11584758295734705981 tw9796721452174640992 tw2031733214490579378 tw16101580473369310016 tw9508564086050012636 tw590490439289554800 tw17863228238586151959 tw10422478903017064870 tw6462873909461446173 tw4408273130211947473 tw5253166122939080296 tw5089999063709493707 tw3799253556456285047 tw14047979737560444722 tw9581821186569962662 tw7256270730468798133 tw18186382730046202724 tw14371784431694677699 tw9742419431328903798 tw15312529885266567929 tw4518334311591050400 tw690097903659108431 tw17410421224534750018 tw15147510302618062621 tw14108004704628904534 tw15984727769151618524 tw5380295692105358877 tw4432842909774592832 tw11817492848182363798 tw16246028732917127971 tw2826004078001563337 tw1985846382583273116 tw253862696665603723 tw16911303323299663354 tw1511788718002015027 tw2052395027119285175 tw7953764135991478064 tw9443466230200495439 tw8903671681460929185 tw8110156208424419339 tw780833981954171181 tw6182403271387828218 tw6005774060096816464 tw3276794581000279552 tw17853677127745096340 tw16116952104249711310 tw1531627446643189734 tw15172595968410356324 tw14656841833798580729 tw12849551172806822364 tw11378199213595004224 tw10789612463773563000 tw8057353060319546236 tw4454735793004436063 tw2774430241762410644 tw3768066665172253420 tw1613843054153617749 tw14964475587837431343 tw12433933510806298598 tw3572703281039979546 tw7785404129828260087 tw6039674004056596013 tw15436511101348624380 tw12244209466030377387 tw687406632223153583 tw18266277604309646017 tw12123380073708602024 tw9655511707991044424 tw4377578329495053083 tw17352856536485648358 tw14141658772794872984 tw13915296908601301481 tw12491141326765347019 tw12323035755679043967 tw11153893612198132124 tw16442741678306357514 tw13470149443854285128 tw8927711953382768998 tw10617819017038788055:True)
open_shared sh for PySem.Challenge.pw_framekeep_s01_answers leaving 0
namespace Hd
open PySem PySem.W PySem.Calls PyProof.Rows sh
local macro_rules|`($n:num^$i:ident)=>`((nat_lit $n,$i $(Lean.mkIdent `P)))
noncomputable abbrev R:=PySem.Challenge.rw_framekeep_s01_answers
noncomputable abbrev S4(w:World)(os:OsState):Shared:=(SharedT.mk (tree_4 w.params) 15 {} ⟨[]⟩ {} 187 os).abs
noncomputable def H9(P:Params):Heap:=absHeap (tree_1055 P) 927 {}
noncomputable abbrev S9(w:World)(os:OsState):Shared:=⟨H9 w.params,⟨[]⟩,{},1650,os⟩
noncomputable abbrev bE:=behindTheImports R.1
noncomputable abbrev cE:=Code.body bE env_1
noncomputable abbrev p0:Pos:=⟨0,0,0,0⟩
noncomputable abbrev F0:=[topFrame p0]
noncomputable abbrev G0:=some (Value.ref 6)
noncomputable abbrev B0(w:World)(os:OsState):Shared:=⟨boot_heap w.params,⟨[]⟩,boot_drawn,boot_toks,os⟩
theorem pre(w:World):(fun os=>topGo treeTable R.1 w 11 G0 12 (B0 w os) (topStub R.1))=fun os=>some (S4 w os,⟨denote treeTable cE,cE,p0,F0⟩):=by
 rw[PySem.W.Fast.te15667345088766844465,PySem.W.Fast.te14364793385576792824,PySem.W.Fast.te11892475500146522536];kernel_rfl
theorem blk(w:World):(fun os=>segRun treeTable R.1 w 11 G0 1 1 (S4 w os) (blockOf bE env_1 cE p0 F0))=fun os=>some (Flow.next,S4 w os,cE,p0):=by
 rw[PySem.W.Fast.te14374325043358763698,PySem.W.Fast.te14364793385576792824];kernel_rfl
theorem fin(w:World):(fun os=>topRun treeTable R.1 w 11 G0 2 (S9 w os) (restOf [] env_1 cE ⟨715,0,732,15⟩ F0))=fun os=>some (S9 w os):=by
 rw[PySem.W.Fast.te14082659384304107361,PySem.W.Fast.te14364793385576792824];kernel_rfl
noncomputable def run(w:World)(os:OsState):=go_top (congrFun (pre w) os) (piece_block (congrFun (blk w) os) (chain R.1 bE w os [] 2 _ (congrFun (fin w) os)))
theorem sz(w:World):((boot_heap w.params).isNs mainGlobals&&(⟨[]⟩:Array GenState).size==0,(boot_heap w.params).objs.size,(boot_heap w.params).nsMap mainGlobals "__annotations__")=(true,11,G0):=by kernel_rfl
noncomputable def qv:Program:={R.1 with main:={R.1.main with body:=R.1.main.body.drop 168}}
noncomputable def ls:List Str:=(R.1.main.scope.names.map (·.1)).filter (fun x=>x != "answers")
noncomputable def Xt(s:Shared):Bool:=xlAt qv [] s&&recOk [] s
noncomputable def KK:Params→Frag:=fun P=>3^o_1031::15^o_7::16^o_8::17^o_9::18^o_10::22^o_14::23^o_15::29^o_21::30^o_22::36^o_28::37^o_29::43^o_35::44^o_36::50^o_42::51^o_43::57^o_52::58^o_53::64^o_59::65^o_60::71^o_66::72^o_67::76^o_71::77^o_72::81^o_76::82^o_77::88^o_83::89^o_84::102^o_100::103^o_101::109^o_107::110^o_108::116^o_114::117^o_115::119^o_117::120^o_118::130^o_128::131^o_129::137^o_135::138^o_136::144^o_142::145^o_143::146^o_147::152^o_153::153^o_154::159^o_160::160^o_161::166^o_167::167^o_168::173^o_174::174^o_175::180^o_181::181^o_182::187^o_188::188^o_189::194^o_195::195^o_196::201^o_202::202^o_203::208^o_209::209^o_210::215^o_219::216^o_220::222^o_226::223^o_227::229^o_233::230^o_234::236^o_240::237^o_241::243^o_247::244^o_248::250^o_254::251^o_255::257^o_261::258^o_262::264^o_268::265^o_269::266^o_270::267^o_271::273^o_277::274^o_278::280^o_284::281^o_285::282^o_290::283^o_291::296^o_304::297^o_305::299^o_307::300^o_308::316^o_327::317^o_328::319^o_330::320^o_331::330^o_341::331^o_342::335^o_346::336^o_347::342^o_353::343^o_354::349^o_360::350^o_361::356^o_367::357^o_368::363^o_377::364^o_378::370^o_384::371^o_385::377^o_391::378^o_392::391^o_405::392^o_406::394^o_408::395^o_409::405^o_419::406^o_420::412^o_426::413^o_427::419^o_436::420^o_437::426^o_443::427^o_444::433^o_450::434^o_451::440^o_457::441^o_458::447^o_464::448^o_465::454^o_471::455^o_472::461^o_478::462^o_479::468^o_485::469^o_486::470^o_487::471^o_492::472^o_493::485^o_511::486^o_512::492^o_518::493^o_519::499^o_525::500^o_526::506^o_532::507^o_533::513^o_539::514^o_540::520^o_546::521^o_547::523^o_549::524^o_550::534^o_563::535^o_564::541^o_570::542^o_571::548^o_577::549^o_578::555^o_584::556^o_585::562^o_591::563^o_592::569^o_598::570^o_599::576^o_605::577^o_606::583^o_612::584^o_613::590^o_619::591^o_620::597^o_626::598^o_627::604^o_633::605^o_634::611^o_640::612^o_641::618^o_650::619^o_651::625^o_657::626^o_658::632^o_664::633^o_665::646^o_681::647^o_682::651^o_686::652^o_687::658^o_693::659^o_694::665^o_700::666^o_701::672^o_707::673^o_708::679^o_714::680^o_715::686^o_721::687^o_722::693^o_728::694^o_729::700^o_735::701^o_736::707^o_742::708^o_743::714^o_749::715^o_750::721^o_756::722^o_757::726^o_761::727^o_762::733^o_768::734^o_769::740^o_775::741^o_776::747^o_782::748^o_783::752^o_787::753^o_788::757^o_792::758^o_793::762^o_797::763^o_798::769^o_804::770^o_805::776^o_811::777^o_812::783^o_818::784^o_819::786^o_821::787^o_822::797^o_920::798^o_921::804^o_927::805^o_928::811^o_934::812^o_935::818^o_941::819^o_942::825^o_948::826^o_949::832^o_955::833^o_956::839^o_962::840^o_963::846^o_969::847^o_970::853^o_976::854^o_977::860^o_983::861^o_984::867^o_990::868^o_991::874^o_997::875^o_998::881^o_1007::882^o_1008::888^o_1014::889^o_1015::895^o_1021::896^o_1022::902^o_1028::903^o_1029::904^o_1033::905^o_1034::906^o_1035::907^o_1036::908^o_1037::909^o_1038::910^o_1039::911^o_1040::912^o_1041::913^o_1042::914^o_1043::915^o_1044::916^o_1045::917^o_1046::918^o_1047::919^o_1048::925^o_1054::926^o_1055::[]
noncomputable def As:List Addr:=[3,15,16,17,18,22,23,29,30,36,37,43,44,50,51,57,58,64,65,71,72,76,77,81,82,88,89,102,103,109,110,116,117,119,120,130,131,137,138,144,145,146,152,153,159,160,166,167,173,174,180,181,187,188,194,195,201,202,208,209,215,216,222,223,229,230,236,237,243,244,250,251,257,258,264,265,266,267,273,274,280,281,282,283,296,297,299,300,316,317,319,320,330,331,335,336,342,343,349,350,356,357,363,364,370,371,377,378,391,392,394,395,405,406,412,413,419,420,426,427,433,434,440,441,447,448,454,455,461,462,468,469,470,471,472,485,486,492,493,499,500,506,507,513,514,520,521,523,524,534,535,541,542,548,549,555,556,562,563,569,570,576,577,583,584,590,591,597,598,604,605,611,612,618,619,625,626,632,633,646,647,651,652,658,659,665,666,672,673,679,680,686,687,693,694,700,701,707,708,714,715,721,722,726,727,733,734,740,741,747,748,752,753,757,758,762,763,769,770,776,777,783,784,786,787,797,798,804,805,811,812,818,819,825,826,832,833,839,840,846,847,853,854,860,861,867,868,874,875,881,882,888,889,895,896,902,903,904,905,906,907,908,909,910,911,912,913,914,915,916,917,918,919,925,926]
theorem l1(w:World)(os:OsState):(staticsOk (importedModules R.1.main.body) (boot_heap w.params) (S9 w os).heap&&namesBound R.1 (S9 w os).heap&&gensDone (S9 w os)&&laidKept (boot_heap w.params) (S9 w os).heap)=true:=by
 rw[PySem.W.Fast.te5923862056798008813];kernel_rfl
theorem l2(w:World)(os:OsState):openSeen qv ls (importedModules R.1.main.body) Xt true (S9 w os)=openGood qv ls:=by
 rw[PySem.W.Fast.te4187177175401517315];kernel_rfl
theorem l3(w:World)(os:OsState):As.map (S9 w os).heap.get?=(KK w.params).map fun p=>some p.2:=by kernel_rfl
theorem lft:LeftO R.prog qv ls Xt (fun s=>As.map s.heap.get?) (fun w=>(KK w.params).map fun p=>some p.2) 12392:=LeftO.of_pieces (H₁:=H9) (gs₁:=⟨[]⟩) (d₁:={}) (k₁:=1650) (boot_open (by kernel_rfl) (by decide) fun s=>by kernel_rfl) sz run (by decide) fun w=>funext fun os=>congr (congrArg Prod.mk (l1 w os)) (congr (congrArg Prod.mk (l2 w os)) (l3 w os))
theorem ws:R.wellSaid=true:=by decide +kernel
theorem hdO{d:DefRec}{kwd:List (Str×Expr)}(hdef:defOf qv R.name=some (d,kwd))(hp:R.prog.theDef R.name=some (d.params,d.body,d.scope))(hk:kwWritten? d.params.kwonlyargs d.params.kw_defaults=some kwd)(call:WalkOS qv ls (XL qv []) (InK KK) R d kwd fun f vs=>PySem.call f vs):R.Holds:=holds_os (Xt:=Xt) lft (InK.of (as:=As) fun _=>by kernel_rfl) InK.keeps (fun s e=>xl_of s (Bool.and_eq_true_iff.mp e).1) XL.keeps hdef hp hk (fun s e=>recFacts_of (Bool.and_eq_true_iff.mp e).2) os_shapes ws (by decide +kernel) ⟨rfl,rfl,rfl,rfl,rfl,by decide +kernel⟩ ⟨[.list [.int 3]],by decide +kernel,by decide +kernel⟩ call
end Hd
end
abbrev az:=@Bool.false_ne_true
abbrev aI:=@decide_eq_true_iff
abbrev aQ:=@decide_eq_false
abbrev aN:=@decide_eq_true
abbrev cj:=@of_decide_eq_true
abbrev eQ:=@of_decide_eq_false
abbrev ai:=@if_pos
abbrev ah:=@if_neg
abbrev aS:=@List.mem_cons_of_mem
abbrev aH:=@List.length_map
abbrev ba:=@List.length_append
abbrev a_:=@List.length_drop
abbrev bE:=@List.length_take
abbrev di:=@List.length_cons
abbrev bx:=@List.getElem?_eq_getElem
abbrev bO:=@List.getElem?_map
abbrev eT:=@List.drop_eq_getElem_cons
abbrev bB:=@List.mem_cons_self
abbrev tE:=@List.mem_cons
abbrev bH:=@List.map_append
abbrev d7:=@List.mem_of_getElem?
abbrev aO:=@Option.some.inj
abbrev dh:=@Nat.lt_of_lt_of_le
abbrev aM:=@Nat.le_refl
abbrev a8:=@Nat.le_trans
abbrev bw:=@Nat.zero_le
abbrev bj:=@Bool.and_eq_true
abbrev dF:=@List.append_assoc
abbrev gY:=@List.getElem?_append_left
abbrev jy:=@List.getElem?_append_right
abbrev eD:=@List.take_of_length_le
abbrev cz:=@List.map_cons
abbrev qj:=@Nat.le_of_lt
abbrev Ew:=@Nat.le_of_not_lt
abbrev gX:=@Nat.lt_of_le_of_lt
abbrev gr:=@List.getElem?_set_self
abbrev jx:=@List.length_replicate
abbrev yz:=@Nat.le_of_eq
abbrev tD:=@Int.natCast_add
abbrev Eu:=@List.all_eq_true
abbrev bL:=@List.size_toArray
abbrev gW:=@List.append_nil
namespace Fk
open Sf84
theorem bF{α β ε:Type}{x:Except ε α}{f:α->Except ε β}{b:β}(h:(x >>= f)=Except.ok b):∃a,x= .ok a/\f a= .ok b:=by
 cases x with
 |error e=>cases h
 |ok a=>exact⟨a,rfl,h⟩
theorem o5(h:sign e k l= .ok r):r.length<l.length:=by
 unfold sign at h;split at h
 ·split at h
  ·cases h;simp
  ·cases h
 ·cases h
structure acn(e f:Nat):Prop where
 pt:∀d l v r,part e f d l= .ok (v,r)->r.length<l.length
 tm:∀d l v r,term e f d l= .ok (v,r)->r.length<l.length
 Su:∀d u l v r,termMore e f d u l= .ok (v,r)->r.length<=l.length
 va:∀d l v r,value e f d l= .ok (v,r)->r.length<l.length
 Ss:∀d u l v r,valueMore e f d u l= .ok (v,r)->r.length<=l.length
theorem yX(e:Nat):∀f,acn e f
 |0=>by
  refine⟨?_,?_,?_,?_,?_⟩<;>intros<;>rename_i h<;>simp only [part,term,termMore,value,valueMore]at h<;>cases h
 |f+1=>by
  have ih:=yX e f;refine⟨λd l v r h=>?_,λd l v r h=>?_,λd u l v r h=>?_,λd l v r h=>?_,λd u l v r h=>?_⟩
  ·unfold part at h;split at h
   ·cases h;simp
   ·cases h;simp
   ·cases h;simp
   ·split at h
    ·cases h
    ·obtain⟨x,hx,h⟩:=bF h;have h1:=ih.va _ _ _ _ (show value e f (d - 1) _= .ok (x.1,x.2)from hx);split at h
     ·rename_i e1;split at h
      ·cases h
      ·obtain⟨t,ht,h⟩:=bF h;cases h;have h2:=o5 ht;rw[e1]at h1;simp at h1 ⊢;omega
     ·cases h
     ·obtain⟨t,ht,h⟩:=bF h;cases h;have h2:=o5 ht;simp at h1 ⊢;omega
   ·split at h
    ·cases h
    ·obtain⟨x,hx,h⟩:=bF h;have h1:=ih.va _ _ _ _ (show value e f (d - 1) _= .ok (x.1,x.2)from hx);obtain⟨t,ht,h⟩:=bF h;cases h;have h2:=o5 ht;simp at h1 ⊢;omega
   ·cases h
  ·unfold term at h;obtain⟨x,hx,h⟩:=bF h;have h1:=ih.pt _ _ _ _ (show part e f d _= .ok (x.1,x.2)from hx);have h2:=ih.Su _ _ _ _ _ h;omega
  ·unfold termMore at h;split at h
   ·split at h
    ·obtain⟨x,hx,h⟩:=bF h;have h1:=ih.pt _ _ _ _ (show part e f d _= .ok (x.1,x.2)from hx);have h2:=ih.Su _ _ _ _ _ h;simp;omega
    ·cases h;simp
   ·cases h;simp
  ·unfold value at h;obtain⟨x,hx,h⟩:=bF h;have h1:=ih.tm _ _ _ _ (show term e f d _= .ok (x.1,x.2)from hx);have h2:=ih.Ss _ _ _ _ _ h;omega
  ·unfold valueMore at h;split at h
   ·split at h
    ·obtain⟨x,hx,h⟩:=bF h;have h1:=ih.tm _ _ _ _ (show term e f d _= .ok (x.1,x.2)from hx);have h2:=ih.Ss _ _ _ _ _ h;simp;omega
    ·cases h;simp
   ·cases h;simp
theorem bind_eq{α β ε:Type}{x y:Except ε α}{f g:α->Except ε β}(h:x=y)(h2:∀a,x= .ok a->f a=g a):(x >>= f)=(y >>= g):=by
 subst h;cases x with
 |error e=>rfl
 |ok a=>exact h2 a rfl
structure ZU(e f:Nat):Prop where
 pt:∀g d l,3*l.length+1<=f->3*l.length+1<=g->part e f d l=part e g d l
 tm:∀g d l,3*l.length+2<=f->3*l.length+2<=g->term e f d l=term e g d l
 Su:∀g d u l,3*l.length+1<=f->3*l.length+1<=g->termMore e f d u l=termMore e g d u l
 va:∀g d l,3*l.length+3<=f->3*l.length+3<=g->value e f d l=value e g d l
 Ss:∀g d u l,3*l.length+1<=f->3*l.length+1<=g->valueMore e f d u l=valueMore e g d u l
theorem oj(e:Nat):∀f,ZU e f
 |0=>by
  refine⟨?_,?_,?_,?_,?_⟩<;>intros<;>omega
 |f+1=>by
  have ih:=oj e f;have L:=yX e f;refine⟨λg d l h1 h2=>?_,λg d l h1 h2=>?_,λg d u l h1 h2=>?_,λg d l h1 h2=>?_,λg d u l h1 h2=>?_⟩
  all_goals (cases g with|zero=>omega|succ g=>?_)
  ·unfold part;split
   ·rfl
   ·rfl
   ·rfl
   ·split
    ·rfl
    ·simp at h1 h2;exact bind_eq (ih.va g _ _ (by omega) (by omega)) λx hx=>rfl
   ·split
    ·rfl
    ·simp at h1 h2;exact bind_eq (ih.va g _ _ (by omega) (by omega)) λx hx=>rfl
   ·rfl
  ·unfold term;refine bind_eq (ih.pt g _ _ (by omega) (by omega)) λx hx=>?_
   have h3:=L.pt _ _ _ _ (show part e f d _= .ok (x.1,x.2)from hx);exact ih.Su g _ _ _ (by omega) (by omega)
  ·unfold termMore;split
   ·simp at h1 h2;split
    ·refine bind_eq (ih.pt g _ _ (by omega) (by omega)) λx hx=>?_
     have h3:=L.pt _ _ _ _ (show part e f d _= .ok (x.1,x.2)from hx);exact ih.Su g _ _ _ (by omega) (by omega)
    ·rfl
   ·rfl
  ·unfold value;refine bind_eq (ih.tm g _ _ (by omega) (by omega)) λx hx=>?_
   have h3:=L.tm _ _ _ _ (show term e f d _= .ok (x.1,x.2)from hx);exact ih.Ss g _ _ _ (by omega) (by omega)
  ·unfold valueMore;split
   ·simp at h1 h2;split
    ·refine bind_eq (ih.tm g _ _ (by omega) (by omega)) λx hx=>?_
     have h3:=L.tm _ _ _ _ (show term e f d _= .ok (x.1,x.2)from hx);exact ih.Ss g _ _ _ (by omega) (by omega)
    ·rfl
   ·rfl
def eC(e d:Nat)(l:Toks):=part e (3*l.length+1) d l
def pG(e d:Nat)(l:Toks):=term e (3*l.length+2) d l
def fz(e d:Nat)(u:Val)(l:Toks):=termMore e (3*l.length+1) d u l
def eh(e d:Nat)(l:Toks):=value e (3*l.length+3) d l
def eL(e d:Nat)(u:Val)(l:Toks):=valueMore e (3*l.length+1) d u l
theorem Nt(h:eC e d l= .ok (v,r)):r.length<l.length:=(yX e _).pt _ _ _ _ h
theorem Nq(h:pG e d l= .ok (v,r)):r.length<l.length:=(yX e _).tm _ _ _ _ h
theorem QP(e d:Nat)(l:Toks):pG e d l=(do let x<-eC e d l;fz e d x.1 x.2):=by
 unfold pG eC fz
 conv=>lhs;unfold term
 refine bind_eq rfl λx hx=>?_
 have h3:=(yX e _).pt _ _ _ _ (show part e _ d _= .ok (x.1,x.2)from hx);exact(oj e _).Su _ _ _ _ (by omega) (by omega)
theorem Np(e d:Nat)(l:Toks):eh e d l=(do let x<-pG e d l;eL e d x.1 x.2):=by
 unfold eh pG eL
 conv=>lhs;unfold value
 refine bind_eq rfl λx hx=>?_
 have h3:=(yX e _).tm _ _ _ _ (show term e _ d _= .ok (x.1,x.2)from hx);exact(oj e _).Ss _ _ _ _ (by omega) (by omega)
theorem Fd(h:10<=k/\k<=13):fz e d u ((.sign k,p)::r)=(do let x<-eC e d r;fz e d (.op (k - 7) u x.1) x.2):=by
 unfold fz eC
 conv=>lhs;unfold termMore
 dsimp only;rw[ai h];refine bind_eq ((oj e _).pt _ _ _ (by simp;omega) (by omega)) λx hx=>?_
 have h3:=(yX e _).pt _ _ _ _ (show part e _ d _= .ok (x.1,x.2)from hx);exact(oj e _).Su _ _ _ _ (by simp;omega) (by omega)
theorem BW(h:7<=k/\k<=9):eL e d u ((.sign k,p)::r)=(do let x<-pG e d r;eL e d (.op (k - 7) u x.1) x.2):=by
 unfold eL pG
 conv=>lhs;unfold valueMore
 dsimp only;rw[ai h];refine bind_eq ((oj e _).tm _ _ _ (by simp;omega) (by omega)) λx hx=>?_
 have h3:=(yX e _).tm _ _ _ _ (show term e _ d _= .ok (x.1,x.2)from hx);exact(oj e _).Ss _ _ _ _ (by simp;omega) (by omega)
def isSign(lo hi:Nat):Toks->Bool
 |(.sign k,_)::_=>decide (lo<=k/\k<=hi)
 |_=>false
theorem BX(h:isSign 10 13 l=false):fz e d u l= .ok (u,l):=by
 unfold fz termMore;split
 ·rename_i k p r;rw[ah (eQ h)]
 ·rfl
theorem z9(h:isSign 7 9 l=false):eL e d u l= .ok (u,l):=by
 unfold eL valueMore;split
 ·rename_i k p r;rw[ah (eQ h)]
 ·rfl
theorem Nr(e d n p:Nat)(r:Toks):eC e d ((.num n,p)::r)= .ok (.num n,r):=by
 unfold eC part;rfl
theorem J_(e d p:Nat)(r:Toks):eC e d ((.name 0,p)::r)= .ok (.len,r):=by
 unfold eC part;rfl
theorem Ka(e d p:Nat)(r:Toks):eC e d ((.name 1,p)::r)= .ok (.load 2 (.num 12),r):=by
 unfold eC part;rfl
theorem Ff(e p:Nat)(r:Toks):eC e 0 ((.sign 4,p)::r)= .error p:=by
 unfold eC part;rfl
theorem Fe(e p:Nat)(r:Toks):eC e 0 ((.sign 2,p)::r)= .error p:=by
 unfold eC part;rfl
theorem HN(e d p:Nat)(r:Toks):eC e (d+1) ((.sign 4,p)::r)=(do let x<-eh e d r;let t<-sign e 5 x.2;return (x.1,t)):=by
 unfold eC eh
 conv=>lhs;unfold part
 show(if d+1=0 then Except.error p else do let x<-value e (3*((Tok.sign 4,p)::r).length) (d+1 - 1) r;let t<-sign e 5 x.2;return (x.1,t))=_;rw[ah (by omega)];exact bind_eq ((oj e _).va _ _ _ (by simp;omega) (by omega)) λx hx=>rfl
def t9(e:Nat)(v:Val)(l:Toks):Except Nat (Val×Toks):=match l with
 |(.sign 6,_)::(.num n,q)::t=>if n=0\/8<n then .error q else do
   let t<-sign e 3 t
   return (.load n v,t)
 |(.sign 6,_)::t=>.error (here e t)
 |t=>do
   let t<-sign e 3 t
   return (.load 1 v,t)
theorem HM(e d p:Nat)(r:Toks):eC e (d+1) ((.sign 2,p)::r)=(do let x<-eh e d r;t9 e x.1 x.2):=by
 unfold eC eh
 conv=>lhs;unfold part
 show(if d+1=0 then Except.error p else do let x<-value e (3*((Tok.sign 2,p)::r).length) (d+1 - 1) r;t9 e x.1 x.2)=_;rw[ah (by omega)];exact bind_eq ((oj e _).va _ _ _ (by simp;omega) (by omega)) λx hx=>rfl
def KI:Toks->Bool
 |(.num _,_)::_=>true
 |(.name k,_)::_=>decide (k<=1)
 |(.sign k,_)::_=>decide (k=2\/k=4)
 |[]=>false
theorem QQ(h:KI l=false):eC e d l= .error (here e l):=by
 unfold eC part;split<;>first|rfl|(exfalso;revert h;simp[KI])
theorem wb{α β ε:Type}{x:Except ε α}{f:α->β}{b:β}(h:x.map f=Except.ok b):∃a,x= .ok a/\f a=b:=by
 cases x with
 |error e=>cases h
 |ok a=>exact⟨a,rfl,Except.ok.inj h⟩
structure aco(e f:Nat):Prop where
 on:∀d l v r,one e f d l= .ok (v,r)->r.length<l.length
 bo:∀d l v r,both e f d l= .ok (v,r)->r.length<l.length
 SR:∀d u l v r,bothMore e f d u l= .ok (v,r)->r.length<=l.length
 ei:∀d l v r,either e f d l= .ok (v,r)->r.length<l.length
 SO:∀d u l v r,eitherMore e f d u l= .ok (v,r)->r.length<=l.length
theorem Ha(e:Nat):∀f,aco e f
 |0=>by
  refine⟨?_,?_,?_,?_,?_⟩<;>intros<;>rename_i h<;>simp only [one,both,bothMore,either,eitherMore]at h<;>cases h
 |f+1=>by
  have ih:=Ha e f;have V:=yX e f;refine⟨λd l v r h=>?_,λd l v r h=>?_,λd u l v r h=>?_,λd l v r h=>?_,λd u l v r h=>?_⟩
  ·unfold one at h;split at h
   ·obtain⟨x,hx,h⟩:=bF h;cases h;have h1:=ih.on _ _ _ _ (show one e f d _= .ok (x.1,x.2)from hx);simp;omega
   ·split at h
    ·cases h
    ·obtain⟨x,hx,h⟩:=bF h;have h1:=ih.ei _ _ _ _ (show either e f (d - 1) _= .ok (x.1,x.2)from hx);obtain⟨t,ht,h⟩:=bF h;cases h;have h2:=o5 ht;simp at h1 ⊢;omega
   ·obtain⟨x,hx,h⟩:=bF h;have h1:=V.va _ _ _ _ (show value e f d _= .ok (x.1,x.2)from hx);split at h
    ·rename_i e1;split at h
     ·obtain⟨y,hy,h⟩:=wb h;cases h;have h2:=V.va _ _ _ _ (show value e f d _= .ok (y.1,y.2)from hy);rw[e1]at h1;simp at h1;omega
     ·cases h
    ·cases h
  ·unfold both at h;obtain⟨x,hx,h⟩:=bF h;have h1:=ih.on _ _ _ _ (show one e f d _= .ok (x.1,x.2)from hx);have h2:=ih.SR _ _ _ _ _ h;omega
  ·unfold bothMore at h;split at h
   ·obtain⟨x,hx,h⟩:=bF h;have h1:=ih.on _ _ _ _ (show one e f d _= .ok (x.1,x.2)from hx);have h2:=ih.SR _ _ _ _ _ h;simp;omega
   ·cases h;simp
  ·unfold either at h;obtain⟨x,hx,h⟩:=bF h;have h1:=ih.bo _ _ _ _ (show both e f d _= .ok (x.1,x.2)from hx);have h2:=ih.SO _ _ _ _ _ h;omega
  ·unfold eitherMore at h;split at h
   ·obtain⟨x,hx,h⟩:=bF h;have h1:=ih.bo _ _ _ _ (show both e f d _= .ok (x.1,x.2)from hx);have h2:=ih.SO _ _ _ _ _ h;simp;omega
   ·cases h;simp
structure ZW(e f:Nat):Prop where
 on:∀g d l,3*l.length+4<=f->3*l.length+4<=g->one e f d l=one e g d l
 bo:∀g d l,3*l.length+5<=f->3*l.length+5<=g->both e f d l=both e g d l
 SR:∀g d u l,3*l.length+2<=f->3*l.length+2<=g->bothMore e f d u l=bothMore e g d u l
 ei:∀g d l,3*l.length+6<=f->3*l.length+6<=g->either e f d l=either e g d l
 SO:∀g d u l,3*l.length+3<=f->3*l.length+3<=g->eitherMore e f d u l=eitherMore e g d u l
theorem q0(e:Nat):∀f,ZW e f
 |0=>by
  refine⟨?_,?_,?_,?_,?_⟩<;>intros<;>omega
 |f+1=>by
  have ih:=q0 e f;have L:=Ha e f;have V:=yX e f;have VF:=oj e f;refine⟨λg d l h1 h2=>?_,λg d l h1 h2=>?_,λg d u l h1 h2=>?_,λg d l h1 h2=>?_,λg d u l h1 h2=>?_⟩
  all_goals (cases g with|zero=>omega|succ g=>?_)
  ·unfold one;split
   ·simp at h1 h2;exact bind_eq (ih.on g _ _ (by omega) (by omega)) λx hx=>rfl
   ·split
    ·rfl
    ·simp at h1 h2;exact bind_eq (ih.ei g _ _ (by omega) (by omega)) λx hx=>rfl
   ·refine bind_eq (VF.va g _ _ (by omega) (by omega)) λx hx=>?_
    have h3:=V.va _ _ _ _ (show value e f d _= .ok (x.1,x.2)from hx);split
    ·rename_i e1;rw[e1]at h3;simp at h3;split
     ·rw[VF.va g _ _ (by omega) (by omega)]
     ·rfl
    ·rfl
  ·unfold both;refine bind_eq (ih.on g _ _ (by omega) (by omega)) λx hx=>?_
   have h3:=L.on _ _ _ _ (show one e f d _= .ok (x.1,x.2)from hx);exact ih.SR g _ _ _ (by omega) (by omega)
  ·unfold bothMore;split
   ·simp at h1 h2;refine bind_eq (ih.on g _ _ (by omega) (by omega)) λx hx=>?_
    have h3:=L.on _ _ _ _ (show one e f d _= .ok (x.1,x.2)from hx);exact ih.SR g _ _ _ (by omega) (by omega)
   ·rfl
  ·unfold either;refine bind_eq (ih.bo g _ _ (by omega) (by omega)) λx hx=>?_
   have h3:=L.bo _ _ _ _ (show both e f d _= .ok (x.1,x.2)from hx);exact ih.SO g _ _ _ (by omega) (by omega)
  ·unfold eitherMore;split
   ·simp at h1 h2;refine bind_eq (ih.bo g _ _ (by omega) (by omega)) λx hx=>?_
    have h3:=L.bo _ _ _ _ (show both e f d _= .ok (x.1,x.2)from hx);exact ih.SO g _ _ _ (by omega) (by omega)
   ·rfl
def jo(e d:Nat)(l:Toks):=one e (3*l.length+4) d l
def pH(e d:Nat)(l:Toks):=both e (3*l.length+5) d l
def fM(e d:Nat)(u:Test)(l:Toks):=bothMore e (3*l.length+2) d u l
def eW(e d:Nat)(l:Toks):=either e (3*l.length+6) d l
def dY(e d:Nat)(u:Test)(l:Toks):=eitherMore e (3*l.length+3) d u l
theorem QS(h:jo e d l= .ok (v,r)):r.length<l.length:=(Ha e _).on _ _ _ _ h
theorem Nu(h:pH e d l= .ok (v,r)):r.length<l.length:=(Ha e _).bo _ _ _ _ h
theorem QV(e d:Nat)(l:Toks):pH e d l=(do let x<-jo e d l;fM e d x.1 x.2):=by
 unfold pH jo fM
 conv=>lhs;unfold both
 refine bind_eq rfl λx hx=>?_
 have h3:=(Ha e _).on _ _ _ _ (show one e _ d _= .ok (x.1,x.2)from hx);exact(q0 e _).SR _ _ _ _ (by omega) (by omega)
theorem Kc(e d:Nat)(l:Toks):eW e d l=(do let x<-pH e d l;dY e d x.1 x.2):=by
 unfold eW pH dY
 conv=>lhs;unfold either
 refine bind_eq rfl λx hx=>?_
 have h3:=(Ha e _).bo _ _ _ _ (show both e _ d _= .ok (x.1,x.2)from hx);exact(q0 e _).SO _ _ _ _ (by omega) (by omega)
theorem Fh:fM e d u ((.name 2,p)::r)=(do let x<-jo e d r;fM e d (.and_ u x.1) x.2):=by
 unfold fM jo
 conv=>lhs;unfold bothMore
 refine bind_eq ((q0 e _).on _ _ _ (by simp;omega) (by omega)) λx hx=>?_
 have h3:=(Ha e _).on _ _ _ _ (show one e _ d _= .ok (x.1,x.2)from hx);exact(q0 e _).SR _ _ _ _ (by simp;omega) (by omega)
theorem Aa:dY e d u ((.name 3,p)::r)=(do let x<-pH e d r;dY e d (.or_ u x.1) x.2):=by
 unfold dY pH
 conv=>lhs;unfold eitherMore
 refine bind_eq ((q0 e _).bo _ _ _ (by simp;omega) (by omega)) λx hx=>?_
 have h3:=(Ha e _).bo _ _ _ _ (show both e _ d _= .ok (x.1,x.2)from hx);exact(q0 e _).SO _ _ _ _ (by simp;omega) (by omega)
def isName(j:Nat):Toks->Bool
 |(.name k,_)::_=>decide (k=j)
 |_=>false
theorem BZ(h:isName 2 l=false):fM e d u l= .ok (u,l):=by
 unfold fM bothMore;split
 ·exfalso;revert h;simp[isName]
 ·rfl
theorem x9(h:isName 3 l=false):dY e d u l= .ok (u,l):=by
 unfold dY eitherMore;split
 ·exfalso;revert h;simp[isName]
 ·rfl
theorem QR(e d p:Nat)(r:Toks):jo e d ((.name 4,p)::r)=(do let x<-jo e d r;return (.not_ x.1,x.2)):=by
 unfold jo
 conv=>lhs;unfold one
 exact bind_eq ((q0 e _).on _ _ _ (by simp;omega) (by omega)) λx hx=>rfl
theorem HP(e p:Nat)(r:Toks):jo e 0 ((.sign 0,p)::r)= .error p:=by
 unfold jo one;rfl
theorem Kb(e d p:Nat)(r:Toks):jo e (d+1) ((.sign 0,p)::r)=(do let x<-eW e d r;let t<-sign e 1 x.2;return (x.1,t)):=by
 unfold jo eW
 conv=>lhs;unfold one
 show(if d+1=0 then Except.error p else do let x<-either e (3*((Tok.sign 0,p)::r).length+3) (d+1 - 1) r;let t<-sign e 1 x.2;return (x.1,t))=_;rw[ah (by omega)];exact bind_eq ((q0 e _).ei _ _ _ (by simp;omega) (by omega)) λx hx=>rfl
def BY(e d:Nat)(l:Toks):Except Nat (Test×Toks):=do
 let x<-eh e d l
 match x.2 with
 |(.sign k,p)::r=>if 14<=k/\k<=19 then(eh e d r).map λ(y:Val×Toks)=>(.cmp (k - 14) x.1 y.1,y.2)else .error p
 |t=>.error (here e t)
theorem QT(h1:isName 4 l=false)(h2:isSign 0 0 l=false):jo e d l=BY e d l:=by
 unfold jo BY eh
 conv=>lhs;unfold one
 split
 ·exfalso;revert h1;simp[isName]
 ·exfalso;revert h2;simp[isSign]
 ·refine bind_eq ((oj e _).va _ _ _ (by omega) (by omega)) λx hx=>?_
  have h3:=(yX e _).va _ _ _ _ (show value e _ d _= .ok (x.1,x.2)from hx);obtain⟨v,t⟩:=x
  match t,h3 with
  |[],_=>rfl
  |(.num n,p)::r,_=>rfl
  |(.name n,p)::r,_=>rfl
  |(.sign k,p)::r,h3=>
   simp at h3;dsimp only;rw[(oj e _).va (3*r.length+3) d r (by omega) (aM _)]
def NI:Nat->Test->Test
 |0,t=>t
 |n+1,t=>NI n (.not_ t)
theorem Te(b:Bytes)(l:Toks)(h:tokens (b.length+1) 0 b= .ok l):Sf84.read b=(do let x<-eW b.length 40 l;if x.2=[]then return x.1 else .error (here b.length x.2)):=by
 unfold Sf84.read;rw[h];show(do let x<-either b.length (8*l.length+8) 40 l;if x.2=[]then return x.1 else .error (here b.length x.2))=_;refine bind_eq ?_ λx hx=>rfl
 unfold eW;exact(q0 _ _).ei _ _ _ (by omega) (by omega)
def d6(v:Val):Option Nat:=match v.folded with
 | .num n=>some n
 |_=>none
def bX(v:Val):Code:=v.folded.code
def da(t:Test):Option Nat:=match t.folded with
 | .fixed b=>some (flag b)
 |_=>none
def bA(t:Test):Code:=t.folded.code
theorem kz(h:d6 v=some n):bX v=[(0,n)]/\v.folded= .num n:=by
 unfold d6 at h;unfold bX;split at h
 ·rename_i m e;cases h;rw[e];exact⟨rfl,rfl⟩
 ·cases h
theorem PJ(n:Nat):d6 (.num n)=some n:=rfl
theorem Dn(n:Nat):bX (.num n)=[(0,n)]:=rfl
theorem MX:bX .len=[(1,0)]:=rfl
theorem rF(n:Nat)(v:Val):bX (.load n v)=bX v++[(2,n)]:=rfl
theorem rE(ha:d6 a=some x)(hb:d6 b=some y):d6 (.op k a b)=some (reckoned k x y)/\bX (.op k a b)=[(0,reckoned k x y)]:=by
 have e1:=(kz ha).2;have e2:=(kz hb).2;have e:(Val.op k a b).folded= .num (reckoned k x y):=by
  unfold Val.folded;rw[e1,e2]
 unfold d6 bX;rw[e];exact⟨rfl,rfl⟩
theorem ql(h:d6 v=none):∀n,v.folded≠ .num n:=by
 intro n e;unfold d6 at h;rw[e]at h;cases h
theorem lQ(h:d6 a=none\/d6 b=none):d6 (.op k a b)=none/\bX (.op k a b)=bX a++bX b++[(3,k)]:=by
 have e:(Val.op k a b).folded= .op k a.folded b.folded:=by
  conv=>lhs;unfold Val.folded
  split
  ·rename_i x y ex ey;rcases h with h|h
   ·exact absurd ex (ql h x)
   ·exact absurd ey (ql h y)
  ·rfl
 unfold d6 bX;rw[e];refine⟨rfl,?_⟩;show a.folded.code++(b.folded.code++[(3,k)])=_;rw[dF]
theorem iX(h:da t=some n):bA t=[(0,n)]/\∃b,t.folded= .fixed b/\n=flag b:=by
 unfold da at h;unfold bA;split at h
 ·rename_i b e;cases h;rw[e];exact⟨rfl,b,rfl,rfl⟩
 ·cases h
theorem lR(h:da t=none):∀b,t.folded≠ .fixed b:=by
 intro b e;unfold da at h;rw[e]at h;cases h
theorem xn(ha:d6 a=some x)(hb:d6 b=some y):da (.cmp k a b)=some (flag (compared k x y))/\bA (.cmp k a b)=[(0,flag (compared k x y))]:=by
 have e1:=(kz ha).2;have e2:=(kz hb).2;have e:(Test.cmp k a b).folded= .fixed (compared k x y):=by
  unfold Test.folded;rw[e1,e2]
 unfold da bA;rw[e];exact⟨rfl,rfl⟩
theorem rH(h:d6 a=none\/d6 b=none):da (.cmp k a b)=none/\bA (.cmp k a b)=bX a++bX b++[(4,k)]:=by
 have e:(Test.cmp k a b).folded= .cmp k a.folded b.folded:=by
  conv=>lhs;unfold Test.folded
  split
  ·rename_i x y ex ey;rcases h with h|h
   ·exact absurd ex (ql h x)
   ·exact absurd ey (ql h y)
  ·rfl
 unfold da bA;rw[e];refine⟨rfl,?_⟩;show a.folded.code++(b.folded.code++[(4,k)])=_;rw[dF];rfl
theorem xm(h:da t=some n):da (.not_ t)=some (flag (n==0))/\bA (.not_ t)=[(0,flag (n==0))]:=by
 obtain⟨_,b,e,rfl⟩:=iX h;have e2:(Test.not_ t).folded= .fixed (!b):=by
  unfold Test.folded;rw[e]
 unfold da bA;rw[e2];cases b<;>exact⟨rfl,rfl⟩
theorem zd(h:da t=none):da (.not_ t)=none/\bA (.not_ t)=bA t++[(5,0)]:=by
 have e2:(Test.not_ t).folded= .not_ t.folded:=by
  conv=>lhs;unfold Test.folded
  split
  ·rename_i b e;exact absurd e (lR h b)
  ·rfl
 unfold da bA;rw[e2];exact⟨rfl,rfl⟩
theorem He(h:da a=some 0):da (.and_ a b)=da a/\bA (.and_ a b)=bA a:=by
 obtain⟨_,x,e,hx⟩:=iX h;cases x with
 |true=>cases hx
 |false=>
  have e2:(Test.and_ a b).folded=a.folded:=by
   conv=>lhs;unfold Test.folded
   rw[e]
  unfold da bA;rw[e2];exact⟨rfl,rfl⟩
theorem Dv(h:da a=some n)(hn:n≠0):da (.and_ a b)=da b/\bA (.and_ a b)=bA b:=by
 obtain⟨_,x,e,hx⟩:=iX h;cases x with
 |false=>exact absurd hx hn
 |true=>
  have e2:(Test.and_ a b).folded=b.folded:=by
   conv=>lhs;unfold Test.folded
   rw[e]
  unfold da bA;rw[e2];exact⟨rfl,rfl⟩
theorem ze(h:da a=none):da (.and_ a b)=none/\bA (.and_ a b)=bA a++[(6,(bA b).length)]++bA b:=by
 have e2:(Test.and_ a b).folded= .and_ a.folded b.folded:=by
  conv=>lhs;unfold Test.folded
  split
  ·rename_i e;exact absurd e (lR h _)
  ·rename_i e;exact absurd e (lR h _)
  ·rfl
 unfold da bA;rw[e2];refine⟨rfl,?_⟩;show a.folded.code++((6,b.folded.code.length)::b.folded.code)=_;rw[dF];rfl
theorem Hc(h:da a=some n)(hn:n≠0):da (.or_ a b)=da a/\bA (.or_ a b)=bA a:=by
 obtain⟨_,x,e,hx⟩:=iX h;cases x with
 |false=>exact absurd hx hn
 |true=>
  have e2:(Test.or_ a b).folded=a.folded:=by
   conv=>lhs;unfold Test.folded
   rw[e]
  unfold da bA;rw[e2];exact⟨rfl,rfl⟩
theorem LN(h:da a=some 0):da (.or_ a b)=da b/\bA (.or_ a b)=bA b:=by
 obtain⟨_,x,e,hx⟩:=iX h;cases x with
 |true=>cases hx
 |false=>
  have e2:(Test.or_ a b).folded=b.folded:=by
   conv=>lhs;unfold Test.folded
   rw[e]
  unfold da bA;rw[e2];exact⟨rfl,rfl⟩
theorem Du(h:da a=none):da (.or_ a b)=none/\bA (.or_ a b)=bA a++[(7,(bA b).length)]++bA b:=by
 have e2:(Test.or_ a b).folded= .or_ a.folded b.folded:=by
  conv=>lhs;unfold Test.folded
  split
  ·rename_i e;exact absurd e (lR h _)
  ·rename_i e;exact absurd e (lR h _)
  ·rfl
 unfold da bA;rw[e2];refine⟨rfl,?_⟩;show a.folded.code++((7,b.folded.code.length)::b.folded.code)=_;rw[dF];rfl
theorem xP(t:Test):t.compiled=bA t++[(8,0)]:=rfl
def codes(b:Bytes):List Nat:=b.map UInt8.toNat
def IT(c:Nat):Bool:=decide (48<=c)&&decide (c<=57)
def dN(c:Nat):Bool:=IT c||((decide (65<=c)&&decide (c<=90))||((decide (97<=c)&&decide (c<=122))||c==46))
def sX(c:Nat):Bool:=c==32||(c==9||c==10)
theorem uQ(c:UInt8):isWord c=dN c.toNat:=by
 have e:(c==46)=(c.toNat==46):=by
  rw[Bool.eq_iff_iff,beq_iff_eq,beq_iff_eq];exact⟨λh=>by rw[h];rfl,λh=>UInt8.toNat_inj.mp h⟩
 unfold isWord isDigit dN IT;rw[e]
theorem N5(c:UInt8):isBlank c=sX c.toNat:=by
 have e (k:Nat) (hk:k<256):(c==UInt8.ofNat k)=(c.toNat==k):=by
  rw[Bool.eq_iff_iff,beq_iff_eq,beq_iff_eq];refine⟨λh=>by rw[h,UInt8.toNat_ofNat'];exact Nat.mod_eq_of_lt hk,λh=>UInt8.toNat_inj.mp ?_⟩;rw[h,UInt8.toNat_ofNat'];exact(Nat.mod_eq_of_lt hk).symm
 have e1:=e 32 (by decide);have e2:=e 9 (by decide);have e3:=e 10 (by decide);unfold isBlank sX;rw[<-e1,<-e2,<-e3];rfl
def oK(c:Nat):Option Nat:=if IT c=true then some (c - 48)else if 65<=c/\c<=70 then some (c - 55)else if 97<=c/\c<=102 then some (c - 87)else none
theorem KP(c:UInt8):hexDigit c=oK c.toNat:=rfl
def wK(base:Nat):Nat->List Nat->Option Nat
 |n,[]=>some n
 |n,c::r=>match oK c with
  |some d=>if d<base then wK base (min (n*base+d) W) r else none
  |none=>none
theorem A7(h:∀d,oK c=some d->¬d<base):wK base n (c::r)=none:=by
 unfold wK;cases e:oK c with
 |none=>rfl
 |some d=>dsimp only;rw[ah (h d e)]
def iq(base:Nat):List Nat->Option (List Nat)
 |[]=>some []
 |c::r=>match oK c with
  |some d=>if d<base then(iq base r).map (d::·)else none
  |none=>none
theorem Eh(hb:1<=base):∀(l:List Nat) (n:Nat),wK base (min n W) l=(iq base l).map λds=>min (ds.foldl (λn d=>base*n+d) n) W
 |[],n=>rfl
 |c::r,n=>by
  unfold wK iq;cases e:oK c with
  |none=>rfl
  |some d=>
   dsimp only;by_cases h:d<base
   ·rw[ai h,ai h];have q:min (min n W*base+d) W=min (base*n+d) W:=by
     by_cases hn:n<=W
     ·rw[Nat.min_eq_left hn,Nat.mul_comm]
     ·have hW:W<=n:=Nat.le_of_not_le hn;have e1:W<=W*base:=Nat.le_mul_of_pos_right W hb;have e2:n<=base*n:=Nat.le_mul_of_pos_left n hb;rw[Nat.min_eq_right hW,Nat.min_eq_right (by omega),Nat.min_eq_right (by omega)]
    rw[q,Eh hb r];cases iq base r<;>rfl
   ·rw[ah h,ah h];rfl
theorem A6(hb:1<=base)(l:List Nat):wK base 0 l=(iq base l).map λds=>min (ds.foldl (λn d=>base*n+d) 0) W:=Eh hb l 0
theorem Ry(h:IT c=true):oK c=some (c - 48):=by
 unfold oK;rw[ai h]
theorem Ea(h:oK c=some d)(hd:d<10):IT c=true:=by
 unfold oK at h;split at h
 ·assumption
 ·split at h
  ·cases h;omega
  ·split at h
   ·cases h;omega
   ·cases h
theorem MD(h:IT c=true):c - 48<10:=by
 unfold IT at h;simp at h;omega
theorem PH:∀b:Bytes,iq 10 (codes b)=if b.all isDigit=true then some (b.map λc=>c.toNat - 48)else none
 |[]=>rfl
 |c::b=>by
  show iq 10 (c.toNat::codes b)=_;unfold iq;by_cases h:isDigit c=true
  ·have h':IT c.toNat=true:=h;rw[Ry h'];dsimp only;rw[ai (MD h'),PH b];by_cases hb:b.all isDigit=true
   ·rw[ai hb,ai (by simp only [List.all_cons,h,hb,Bool.and_self])];rfl
   ·rw[ah hb,ah (by simp only [List.all_cons,h,Bool.true_and];exact hb)];rfl
  ·rw[ah (by simp only [List.all_cons,bj];exact λq=>h q.1)];cases e:oK c.toNat with
   |none=>rfl
   |some d=>
    dsimp only;rw[ah λq=>h (Ea e q)]
theorem Od(h:oK c=some d):d<16:=by
 unfold oK at h;split at h
 ·rename_i q;have:=MD q;cases h;omega
 ·split at h
  ·cases h;omega
  ·split at h
   ·cases h;omega
   ·cases h
theorem PF:∀b:Bytes,iq 16 (codes b)=b.mapM hexDigit
 |[]=>rfl
 |c::b=>by
  show iq 16 (c.toNat::codes b)=_;unfold iq;rw[List.mapM_cons,KP];cases e:oK c.toNat with
  |none=>rfl
  |some d=>
   dsimp only;rw[ai (Od e),PF b];cases b.mapM hexDigit<;>rfl
def dm(base:Nat)(l:List Nat):Option Nat:=if l=[]then none else wK base 0 l
theorem Ei:codes b=[]↔b=[]:=by
 unfold codes;exact List.map_eq_nil_iff
theorem wa(b:Bytes):dm 10 (codes b)=(decimal b).map λn=>min n W:=by
 unfold dm decimal;by_cases hb:b=[]
 ·subst hb;rfl
 ·rw[ah (λq=>hb (Ei.mp q)),A6 (by decide),PH];by_cases h:b.all isDigit=true
  ·rw[ai h,ai ⟨hb,h⟩];simp only [Option.map_some,List.foldl_map]
  ·rw[ah h,ah (λq=>h q.2)];rfl
theorem NF(b:Bytes):dm 16 (codes b)=if b=[]then none else(b.mapM hexDigit).map λl=>min (l.foldl (λn d=>16*n+d) 0) W:=by
 unfold dm;by_cases hb:b=[]
 ·subst hb;rfl
 ·rw[ah (λq=>hb (Ei.mp q)),ah hb,A6 (by decide),PF]
def parts(acc:List Nat):List Nat->List (List Nat)
 |[]=>[acc]
 |c::r=>if c=46 then acc::parts [] r else parts (acc++[c]) r
theorem c46(c:UInt8):c=46↔c.toNat=46:=⟨λh=>by rw[h];rfl,λh=>UInt8.toNat_inj.mp h⟩
theorem jI:∀b:Bytes,parted b≠[]
 |[]=>by simp[parted]
 |c::b=>by
  unfold parted;split
  ·simp
  ·split<;>simp
theorem nq:∀(b acc:Bytes),parts (codes acc) (codes b)=match parted b with
  |x::l=>codes (acc++x)::l.map codes
  |[]=>[]
 |[],acc=>by
  show [codes acc]=[codes (acc++[])];rw[gW]
 |c::b,acc=>by
  show parts (codes acc) (c.toNat::codes b)=_;unfold parts parted;by_cases h:c=46
  ·rw[ai ((c46 c).mp h),ai h];have q:=nq b [];have q2:parts [] (codes b)=parts (codes []) (codes b):=rfl;rw[q2,q];cases e:parted b with
   |nil=>exact absurd e (jI b)
   |cons x l=>
    show codes acc::(codes x::l.map codes)=codes (acc++[])::(codes x::l.map codes);rw[gW]
  ·rw[ah (λz=>h ((c46 c).mpr z)),ah h];have q:=nq b (acc++[c]);have q2:codes acc++[c.toNat]=codes (acc++[c]):=by
    unfold codes;rw[bH];rfl
   rw[q2,q];cases e:parted b with
   |nil=>exact absurd e (jI b)
   |cons x l=>
    show codes (acc++[c]++x)::l.map codes=codes (acc++(c::x))::l.map codes;rw[dF];rfl
theorem QN(b:Bytes):parts [] (codes b)=(parted b).map codes:=by
 have q:=nq b [];have q2:parts [] (codes b)=parts (codes []) (codes b):=rfl;rw[q2,q];cases e:parted b with
 |nil=>exact absurd e (jI b)
 |cons x l=>rfl
theorem z8:∀{b:Bytes},46 ∉ b->parted b=[b]
 |[],_=>rfl
 |c::b,h=>by
  have h1:¬c=46:=λq=>h (by rw[q];exact bB)
  unfold parted;rw[ah h1,z8 (λq=>h (aS _ q))]
theorem z7:∀{b:Bytes},46∈b->2<=(parted b).length
 |[],h=>absurd h (by simp)
 |c::b,h=>by
  unfold parted;by_cases h1:c=46
  ·rw[ai h1];have:=List.length_pos_iff.mpr (jI b);simp;omega
  ·rw[ah h1];have h2:46∈b:=by
    rcases List.mem_cons.mp h with q|q
    ·exact absurd q.symm h1
    ·exact q
   have:=z7 h2;cases e:parted b with
   |nil=>exact absurd e (jI b)
   |cons x l=>
    rw[e]at this;exact this
def pD:Nat->List (List Nat)->Option Nat
 |n,[]=>some n
 |n,p::r=>match dm 10 p with
  |some d=>if d<=255 then pD (n*256+d) r else none
  |none=>none
def pointed(l:List Nat):Option Nat:=if(parts [] l).length=4 then pD 0 (parts [] l)else none
theorem V7:min n W<=255↔n<=255:=by
 have:W=18446744073709551616:=rfl;omega
theorem Tg(h:decimal b=some d)(hd:d<=255):pD n (codes b::r)=pD (n*256+d) r:=by
 conv=>lhs;unfold pD
 rw[wa,h];dsimp only [Option.map_some];have e:min d W=d:=by
  have:W=18446744073709551616:=rfl;omega
 rw[e,ai hd]
theorem L3(h:∀d,decimal b=some d->¬d<=255):pD n (codes b::r)=none:=by
 unfold pD;rw[wa];cases e:decimal b with
 |none=>rfl
 |some d=>
  dsimp only [Option.map_some];rw[ah (λq=>h d e (V7.mp q))]
def ny(l:List Nat):Option Nat:=
 let r:=if l.take 2=[48,120]then dm 16 (l.drop 2)else if 46∈l then pointed l else dm 10 l
 match r with
 |some n=>if n<W then some n else none
 |none=>none
theorem UT:46∈codes b↔46∈b:=by
 unfold codes;rw[List.mem_map];constructor
 ·rintro⟨c,hc,e⟩
  have:=(c46 c).mpr e;rw[this]at hc;exact hc
 ·intro h;exact⟨46,h,rfl⟩
theorem YN:(min n W<W)↔n<W:=by omega
theorem HC{x:Option Nat}:(match x.map λn=>min n W with|some n=>if n<W then some n else none|none=>none)=(x.bind λn=>if n<W then some n else none):=by
 cases x with
 |none=>rfl
 |some n=>
  dsimp only [Option.map_some,Option.bind_some];by_cases h:n<W
  ·rw[ai (YN.mpr h),ai h,Nat.min_eq_left (qj h)]
  ·rw[ah (λq=>h (YN.mp q)),ah h]
theorem YO:[a,b,c,d].mapM decimal=(decimal a).bind λx=>(decimal b).bind λy=>(decimal c).bind λz=>(decimal d).bind λu=>some [x,y,z,u]:=by
 simp only [List.mapM_cons,List.mapM_nil];cases decimal a with
 |none=>rfl
 |some x=>cases decimal b with
  |none=>rfl
  |some y=>cases decimal c with
   |none=>rfl
   |some z=>cases decimal d with
    |none=>rfl
    |some u=>rfl
theorem J5(hp:46∈w):pointed (codes w)=match(parted w).mapM decimal with
  |some [a,b,c,d]=>if a<=255/\b<=255/\c<=255/\d<=255 then some (a*16777216+b*65536+c*256+d)else none
  |_=>none:=by
 unfold pointed;rw[QN,aH];have abx:∀{l:List Bytes} {ns:List Nat},l.mapM decimal=some ns->ns.length=l.length:=by
  intro l
  induction l with
  |nil=>intro ns h;cases h;rfl
  |cons x l ih=>
   intro ns h;rw[List.mapM_cons]at h;cases e1:decimal x with
   |none=>rw[e1]at h;cases h
   |some n=>
    cases e2:l.mapM decimal with
    |none=>rw[e1,e2]at h;cases h
    |some ms=>
     rw[e1,e2]at h;cases h;have:=ih e2;simp[this]
 by_cases h4:(parted w).length=4
 ·rw[ai h4]
  match hq:parted w,h4 with
  |[a,b,c,d],_=>
   rw[YO];show pD 0 [codes a,codes b,codes c,codes d]=_;have step:∀(n:Nat) (x:Bytes) (r:List (List Nat)),(∃k,decimal x=some k/\k<=255/\pD n (codes x::r)=pD (n*256+k) r)\/((∀k,decimal x=some k->¬k<=255)/\pD n (codes x::r)=none):=by
    intro n x r;cases e:decimal x with
    |none=>exact .inr ⟨λk q=>(by cases q),L3 (λk q=>(by rw[e]at q;cases q))⟩
    |some k=>
     by_cases hk:k<=255
     ·exact .inl ⟨k,rfl,hk,Tg e hk⟩
     ·exact .inr ⟨λj q=>(by cases q;exact hk),L3 (λj q=>(by rw[e]at q;cases q;exact hk))⟩
   have bad:∀{o1 o2 o3 o4:Option Nat},(∀x y z u,o1=some x->o2=some y->o3=some z->o4=some u->¬(x<=255/\y<=255/\z<=255/\u<=255))->
     (match(o1.bind λx=>o2.bind λy=>o3.bind λz=>o4.bind λu=>some [x,y,z,u])with
      |some [a,b,c,d]=>if a<=255/\b<=255/\c<=255/\d<=255 then some (a*16777216+b*65536+c*256+d)else none
      |_=>none)=none:=by
    intro o1 o2 o3 o4 h;cases o1 with
    |none=>rfl
    |some x=>cases o2 with
     |none=>rfl
     |some y=>cases o3 with
      |none=>rfl
      |some z=>cases o4 with
       |none=>rfl
       |some u=>exact ah (h x y z u rfl rfl rfl rfl)
   rcases step 0 a [codes b,codes c,codes d]with⟨x,ex,hx,e1⟩|⟨h,e1⟩
   ·rw[e1];rcases step (0*256+x) b [codes c,codes d]with⟨y,ey,hy,e2⟩|⟨h,e2⟩
    ·rw[e2];rcases step ((0*256+x)*256+y) c [codes d]with⟨z,ez,hz,e3⟩|⟨h,e3⟩
     ·rw[e3];rcases step (((0*256+x)*256+y)*256+z) d []with⟨u,eu,hu,e4⟩|⟨h,e4⟩
      ·rw[e4,ex,ey,ez,eu];show some _=if x<=255/\y<=255/\z<=255/\u<=255 then some (x*16777216+y*65536+z*256+u)else none
       rw[ai ⟨hx,hy,hz,hu⟩];have q:∀x y z u:Nat,(((0*256+x)*256+y)*256+z)*256+u=x*16777216+y*65536+z*256+u:=by intros;omega
       rw[q]
      ·rw[e4];exact(bad λx y z u _ _ _ q4 q=>h u q4 q.2.2.2).symm
     ·rw[e3];exact(bad λx y z u _ _ q3 _ q=>h z q3 q.2.2.1).symm
    ·rw[e2];exact(bad λx y z u _ q2 _ _ q=>h y q2 q.2.1).symm
   ·rw[e1];exact(bad λx y z u q1 _ _ _ q=>h x q1 q.1).symm
 ·rw[ah h4];cases e:(parted w).mapM decimal with
  |none=>rfl
  |some ns=>
   have hl:=abx e
   match ns,hl with
   |[],_=>rfl
   |[_],_=>rfl
   |[_,_],_=>rfl
   |[_,_,_],_=>rfl
   |[_,_,_,_],hl=>exact absurd hl.symm h4
   |_::_::_::_::_::_,_=>rfl
theorem Z9(c:UInt8)(k:Nat)(hk:k<256):c.toNat=k↔c=UInt8.ofNat k:=by
 constructor
 ·intro h;apply UInt8.toNat_inj.mp;rw[h,UInt8.toNat_ofNat'];exact(Nat.mod_eq_of_lt hk).symm
 ·intro h;rw[h,UInt8.toNat_ofNat'];exact Nat.mod_eq_of_lt hk
theorem take2:(codes w).take 2=[48,120]↔∃h,w=48::120::h:=by
 match w with
 |[]=>simp[codes]
 |[a]=>simp[codes]
 |a::b::r=>
  show [a.toNat,b.toNat]=[48,120]↔_;constructor
  ·intro h;simp at h;have e1:a=48:=(Z9 a 48 (by decide)).mp h.1;have e2:b=120:=(Z9 b 120 (by decide)).mp h.2;exact⟨r,by rw[e1,e2]⟩
  ·rintro⟨h,e⟩
   cases e;rfl
theorem DQ:ny (codes w)=(numberOf w).bind λn=>if n<W then some n else none:=by
 unfold ny;by_cases h:(codes w).take 2=[48,120]
 ·obtain⟨r,rfl⟩:=take2.mp h;rw[ai h];show(match dm 16 (codes r)with|some n=>if n<W then some n else none|none=>none)=_;rw[NF];show _=(if r=[]then none else(r.mapM hexDigit).map λl=>l.foldl (λ(n d:Nat)=>16*n+d) 0).bind _;by_cases hr:r=[]
  ·rw[ai hr,ai hr];rfl
  ·rw[ah hr,ah hr];have q:((r.mapM hexDigit).map λl=>min (l.foldl (λn d=>16*n+d) 0) W)=(((r.mapM hexDigit).map λl=>l.foldl (λ(n d:Nat)=>16*n+d) 0).map λn=>min n W):=by
    cases r.mapM hexDigit<;>rfl
   rw[q];exact HC
 ·rw[ah h];have e:numberOf w=match(parted w).mapM decimal with
    |some [n]=>some n
    |some [a,b,c,d]=>if a<=255/\b<=255/\c<=255/\d<=255 then some (a*16777216+b*65536+c*256+d)else none
    |_=>none:=by
   unfold numberOf;split
   ·rename_i r;exact absurd (take2.mpr ⟨r,rfl⟩) h
   ·rfl
  rw[e];by_cases hp:46∈w
  ·rw[ai (UT.mpr hp),J5 hp];have h2:=z7 hp;cases e2:(parted w).mapM decimal with
   |none=>rfl
   |some ns=>
    match ns with
    |[]=>rfl
    |[n]=>
     exfalso
     match hq:parted w,h2 with
     |[a],h2=>simp at h2
     |a::b::r,_=>
      rw[hq]at e2;simp only [List.mapM_cons]at e2;cases e3:decimal a with
      |none=>rw[e3]at e2;cases e2
      |some x=>cases e4:decimal b with
       |none=>rw[e3,e4]at e2;cases e2
       |some y=>cases e5:r.mapM decimal with
        |none=>rw[e3,e4,e5]at e2;cases e2
        |some z=>rw[e3,e4,e5]at e2;cases e2
    |[_,_]=>rfl
    |[_,_,_]=>rfl
    |[a,b,c,d]=>
     dsimp only;by_cases q:a<=255/\b<=255/\c<=255/\d<=255
     ·rw[ai q,Option.bind_some]
     ·rw[ah q,Option.bind_none]
    |_::_::_::_::_::_=>rfl
  ·rw[ah (λq=>hp (UT.mp q)),wa,z8 hp];have q:(match [w].mapM decimal with
    |some [n]=>some n
    |some [a,b,c,d]=>if a<=255/\b<=255/\c<=255/\d<=255 then some (a*16777216+b*65536+c*256+d)else none
    |_=>none)=decimal w:=by
    rw[List.mapM_cons,List.mapM_nil];cases decimal w with
    |none=>rfl
    |some n=>rfl
   rw[q];exact HC
theorem BC(h:isDigit c=true):wordTok (c::r)=(ny (codes (c::r))).map Tok.num:=by
 unfold wordTok;show(if isDigit c=true then _ else _)=_;rw[ai h,DQ];cases numberOf (c::r)with
 |none=>rfl
 |some n=>
  dsimp only [Option.bind_some];split<;>rfl
theorem tF(h:¬isDigit c=true):wordTok (c::r)=(NAMES.findIdx? λ(x:Bytes)=>x==(c::r)).map Tok.name:=by
 unfold wordTok;show(if isDigit c=true then _ else _)=_;rw[ah h]
theorem Gb(h:¬isDigit c=true):decimal (c::r)=none:=by
 unfold decimal;rw[ah];intro q;have:=q.2;simp only [List.all_cons,bj]at this;exact h this.1
theorem ND(h:¬isDigit c=true):ny (codes (c::r))=none:=by
 rw[DQ];have e:numberOf (c::r)=none:=by
  unfold numberOf;split
  ·rename_i e0;have e1:=(List.cons.inj e0).1;rw[e1]at h;exact absurd (by decide) h
  ·have hd:∃x l,parted (c::r)=x::l/\decimal x=none:=by
    unfold parted;by_cases q:c=46
    ·rw[ai q];exact⟨[],_,rfl,rfl⟩
    ·rw[ah q];cases e:parted r with
     |nil=>exact absurd e (jI r)
     |cons x l=>exact⟨c::x,l,rfl,Gb h⟩
   obtain⟨x,l,e1,e2⟩:=hd;rw[e1,List.mapM_cons,e2];rfl
 rw[e];rfl
def dn:List Nat:=[40,41,91,93,123,125,58,43,45,124,42,38,61,60,62]
def dD:List (List Nat):=[[60,60],[62,62],[33,61],[60,61],[62,61]]
def TC(c:Nat):Bool:=dN c||(sX c||(dn.contains c||c==33))
def sub(c:Nat):Nat:=if TC c=true then c else 63
def txt(b:Bytes):List Nat:=b.map λc=>sub c.toNat
theorem qr(c:Nat):(TC c=true/\sub c=c)\/(TC c=false/\sub c=63):=by
 unfold sub;cases h:TC c with
 |true=>exact .inl ⟨rfl,rfl⟩
 |false=>exact .inr ⟨rfl,rfl⟩
theorem v_(h:TC c=false):dN c=false/\sX c=false/\c ∉ dn/\c≠33:=by
 unfold TC at h;rw[Bool.or_eq_false_iff,Bool.or_eq_false_iff,Bool.or_eq_false_iff]at h;refine⟨h.1,h.2.1,λq=>?_,λq=>?_⟩
 ·have:=List.contains_iff_mem.mpr q;rw[h.2.2.1]at this;cases this
 ·have:=h.2.2.2;rw[q]at this;cases this
theorem G2(c:Nat):dN (sub c)=dN c:=by
 rcases qr c with⟨_,e⟩|⟨h,e⟩
 ·rw[e]
 ·rw[e,(v_ h).1];rfl
theorem O4(c:Nat):sX (sub c)=sX c:=by
 rcases qr c with⟨_,e⟩|⟨h,e⟩
 ·rw[e]
 ·rw[e,(v_ h).2.1];rfl
theorem P8(h:dN c=true):sub c=c:=by
 unfold sub TC;rw[h];rfl
theorem sub_eq(hk:TC k=true)(h63:k≠63):sub c=k↔c=k:=by
 constructor
 ·intro h;rcases qr c with⟨_,e⟩|⟨_,e⟩
  ·rw[<-e];exact h
  ·rw[e]at h;exact absurd h.symm h63
 ·intro h;rw[h];unfold sub;rw[ai hk]
theorem sub_short:sub c∈dn↔c∈dn:=by
 rcases qr c with⟨_,e⟩|⟨h,e⟩
 ·rw[e]
 ·rw[e];exact⟨λq=>absurd q (by decide),λq=>absurd q (v_ h).2.2.1⟩
theorem Dt:∀b:Bytes,(txt b).takeWhile dN=codes (b.takeWhile isWord)
 |[]=>rfl
 |c::b=>by
  show(sub c.toNat::txt b).takeWhile dN=_;rw[List.takeWhile_cons,List.takeWhile_cons,G2,<-uQ];cases h:isWord c with
  |false=>rfl
  |true=>
   rw[ai rfl,ai rfl,Dt b,P8 (by rw[<-uQ];exact h)];rfl
theorem Jr:SIGNS=[[40],[41],[91],[93],[123],[125],[58],[43],[45],[124],[42],[38],[60,60],[62,62],[61],[33,61],[60],[60,61],[62],[62,61]]:=by decide +kernel
theorem Jt:NAMES=[[108,101,110],[107,105,110,100],[97,110,100],[111,114],[110,111,116]]:=by decide +kernel
def dW(k:Nat):List Nat:=codes (SIGNS.getD k [])
def pI(k:Nat):List Nat:=codes (NAMES.getD k [])
theorem Oj{l:List Bytes}(h:(l.findIdx? λx=>x==w)=some k):l.getD k []=w:=by
 obtain⟨hk,e,_⟩:=List.findIdx?_eq_some_iff_getElem.mp h;rw[List.getD_eq_getElem?_getD,bx hk];exact beq_iff_eq.mp e
theorem find_some{l:List Bytes}{w:Bytes}(h:w∈l):∃k,(l.findIdx? λx=>x==w)=some k/\l.getD k []=w:=by
 cases e:l.findIdx? λx=>x==w with
 |some k=>exact⟨k,rfl,Oj e⟩
 |none=>
  have:=List.findIdx?_eq_none_iff.mp e w h;simp at this
theorem find_none{l:List Bytes}{w:Bytes}(h:w ∉ l):(l.findIdx? λx=>x==w)=none:=by
 apply List.findIdx?_eq_none_iff.mpr;intro x hx;apply beq_eq_false_iff_ne.mpr;intro e;exact h (e▸hx)
theorem Vh(c:UInt8):c.toNat<256:=c.toNat_lt
theorem zc:[x,y]∈SIGNS↔[x.toNat,y.toNat]∈dD:=by
 have e (c:UInt8) (k:Nat) (hk:k<256):=Z9 c k hk;rw[Jr];unfold dD;simp only [tE,List.cons.injEq,reduceCtorEq,and_false,and_true,List.not_mem_nil,or_false,false_or];rw[e x 60 (by decide),e x 62 (by decide),e x 33 (by decide),e y 60 (by decide),e y 61 (by decide),e y 62 (by decide)];constructor
 ·rintro(h|h|h|h|h)
  ·exact .inl h
  ·exact .inr (.inl h)
  ·exact .inr (.inr (.inl h))
  ·exact .inr (.inr (.inr (.inl h)))
  ·exact .inr (.inr (.inr (.inr h)))
 ·rintro(h|h|h|h|h)
  ·exact .inl h
  ·exact .inr (.inl h)
  ·exact .inr (.inr (.inl h))
  ·exact .inr (.inr (.inr (.inl h)))
  ·exact .inr (.inr (.inr (.inr h)))
theorem DO:[x]∈SIGNS↔x.toNat∈dn:=by
 have e (c:UInt8) (k:Nat) (hk:k<256):=Z9 c k hk;rw[Jr];unfold dn;simp only [tE,List.cons.injEq,reduceCtorEq,and_false,and_true,List.not_mem_nil,or_false,false_or];rw[e x 40 (by decide),e x 41 (by decide),e x 91 (by decide),e x 93 (by decide),e x 123 (by decide),e x 125 (by decide),e x 58 (by decide),e x 43 (by decide),e x 45 (by decide),e x 124 (by decide),e x 42 (by decide),e x 38 (by decide),e x 61 (by decide),e x 60 (by decide),e x 62 (by decide)];rfl
theorem AJ:[sub x,sub y]∈dD↔[x,y]∈dD:=by
 unfold dD;simp only [tE,List.cons.injEq,and_true,List.not_mem_nil,or_false];rw[sub_eq (c:=x) (k:=60) (by decide) (by decide),sub_eq (c:=x) (k:=62) (by decide) (by decide),sub_eq (c:=x) (k:=33) (by decide) (by decide),sub_eq (c:=y) (k:=60) (by decide) (by decide),sub_eq (c:=y) (k:=61) (by decide) (by decide),sub_eq (c:=y) (k:=62) (by decide) (by decide)]
theorem NY(h:[x,y]∈dD):[sub x,sub y]=[x,y]:=by
 have:∀l∈dD,∀z∈l,sub z=z:=by decide
 have h1:=this _ h x (by simp);have h2:=this _ h y (by simp);rw[h1,h2]
theorem JV(h:x∈dn):sub x=x:=by
 have:∀z∈dn,sub z=z:=by decide
 exact this x h
theorem uN(h:l∈dD):l.length=2:=by
 have:∀l∈dD,l.length=2:=by decide
 exact this l h
theorem Nd(h:(txt (c::r)).take 2∈dD):∃k,signOf (c::r)=some (k,2)/\dW k=(txt (c::r)).take 2:=by
 match r with
 |[]=>exact absurd (uN h) (by simp[txt])
 |y::r=>
  have h1:[sub c.toNat,sub y.toNat]∈dD:=h;have h2:=AJ.mp h1;obtain⟨k,e1,e2⟩:=find_some (zc.mpr h2);refine⟨k,?_,?_⟩
  ·unfold signOf;show(match SIGNS.findIdx? λx=>x==[c,y]with|some k=>if 1<(c::y::r).length then some (k,2)else some (k,1)|none=>_)=_;rw[e1];dsimp only;rw[ai (by simp)]
  ·unfold dW;rw[e2];show [c.toNat,y.toNat]=[sub c.toNat,sub y.toNat];rw[NY h2]
theorem JT(h:(txt (c::r)).take 2 ∉ dD)(h1:sub c.toNat∈dn):∃k,signOf (c::r)=some (k,1)/\dW k=[sub c.toNat]:=by
 have h3:=sub_short.mp h1;obtain⟨k,e1,e2⟩:=find_some (DO.mpr h3);have ek:dW k=[sub c.toNat]:=by
  unfold dW;rw[e2,JV h3];rfl
 refine⟨k,?_,ek⟩;unfold signOf
 match r with
 |[]=>
  show(match SIGNS.findIdx? λx=>x==[c]with|some k=>if 1<[c].length then some (k,2)else some (k,1)|none=>_)=_;rw[e1];rfl
 |y::r=>
  show(match SIGNS.findIdx? λx=>x==[c,y]with|some k=>if 1<(c::y::r).length then some (k,2)else some (k,1)|none=>(SIGNS.findIdx? λx=>x==[c]).map λk=>(k,1))=_;rw[find_none (λq=>h (AJ.mpr (zc.mp q))),e1];rfl
theorem Nc(h:(txt (c::r)).take 2 ∉ dD)(h1:sub c.toNat ∉ dn):signOf (c::r)=none:=by
 have h3:[c] ∉ SIGNS:=λq=>h1 (sub_short.mpr (DO.mp q))
 unfold signOf
 match r with
 |[]=>
  show(match SIGNS.findIdx? λx=>x==[c]with|some k=>if 1<[c].length then some (k,2)else some (k,1)|none=>(SIGNS.findIdx? λx=>x==[c]).map λk=>(k,1))=_;rw[find_none h3];rfl
 |y::r=>
  show(match SIGNS.findIdx? λx=>x==[c,y]with|some k=>if 1<(c::y::r).length then some (k,2)else some (k,1)|none=>(SIGNS.findIdx? λx=>x==[c]).map λk=>(k,1))=_;rw[find_none (λq=>h (AJ.mpr (zc.mp q))),find_none h3];rfl
theorem gN:∀(f g p:Nat) (b:Bytes),b.length<f->b.length<g->tokens f p b=tokens g p b
 |0,_,_,_,h,_=>by omega
 |f+1,0,_,_,_,h=>by omega
 |f+1,g+1,p,[],_,_=>rfl
 |f+1,g+1,p,c::r,hf,hg=>by
  simp at hf hg;have tw:∀n,0<n->((c::r).drop n).length<=r.length:=by
   intro n hn;simp;omega
  unfold tokens;dsimp only;by_cases h1:isBlank c=true
  ·rw[ai h1,ai h1];exact gN f g _ _ (by omega) (by omega)
  ·rw[ah h1,ah h1];by_cases h2:isWord c=true
   ·rw[ai h2,ai h2];have hw:0<((c::r).takeWhile isWord).length:=by
     rw[List.takeWhile_cons,ai h2];simp
    have:=tw _ hw;rw[gN f g _ ((c::r).drop ((c::r).takeWhile isWord).length) (by omega) (by omega)]
   ·rw[ah h2,ah h2];cases e:signOf (c::r)with
    |none=>rfl
    |some x=>
     obtain⟨k,n⟩:=x;dsimp only;have hn:0<n:=by
      unfold signOf at e;split at e
      ·split at e<;>cases e<;>omega
      ·cases e2:SIGNS.findIdx? λx=>x==(c::r).take 1 with
       |none=>rw[e2]at e;cases e
       |some j=>rw[e2]at e;cases e;omega
     have:=tw _ hn;rw[gN f g _ ((c::r).drop n) (by omega) (by omega)]
def toks(p:Nat)(b:Bytes):=tokens (b.length+1) p b
theorem PQ(p:Nat):toks p []= .ok []:=rfl
theorem JO(h:isBlank c=true):toks p (c::r)=toks (p+1) r:=by
 unfold toks
 conv=>lhs;unfold tokens
 dsimp only;rw[ai h];rfl
def JP:Tok->List Nat
 | .num _=>[110,117,109,98,101,114]
 | .name k=>pI k
 | .sign k=>dW k
def M3:Tok->Nat
 | .num n=>n
 |_=>0
def bJ(t:List Nat):List Nat:=if 0<(t.takeWhile dN).length then t.takeWhile dN else if t.take 2∈dD then t.take 2 else t.take 1
def kX:List (List Nat):=[[108,101,110],[107,105,110,100],[97,110,100],[111,114],[110,111,116]]
def dU(q:List Nat):Bool:=decide (q∈dD)||(decide (q.length=1/\∀c∈q,c∈dn)||decide (q∈kX))
def pR(q:List Nat):Option (List Nat×Nat):=if dU q=true then some (q,0)else(ny q).map λn=>([110,117,109,98,101,114],n)
theorem OP(h:codes a=codes b):a=b:=by
 unfold codes at h;exact List.map_inj_right (λx y e=>UInt8.toNat_inj.mp e) |>.mp h
theorem xC:w∈NAMES↔codes w∈kX:=by
 have e:kX=NAMES.map codes:=by rw[Jt];rfl
 rw[e,List.mem_map];constructor
 ·intro h;exact⟨w,h,rfl⟩
 ·rintro⟨x,hx,q⟩
  rw[<-OP q];exact hx
theorem G1:∀w∈NAMES,isDigit (w.headD 0)=false:=by rw[Jt];decide
theorem BB(h:isWord c=true):codes (c::r) ∉ dD/\¬((codes (c::r)).length=1/\∀x∈codes (c::r),x∈dn):=by
 have h':dN c.toNat=true:=by rw[<-uQ];exact h
 constructor
 ·intro q;have:∀l∈dD,∀z∈l.head?,dN z=false:=by decide
  have:=this _ q c.toNat rfl;rw[h']at this;cases this
 ·rintro⟨_,q⟩
  have:∀z∈dn,dN z=false:=by decide
  have:=this _ (q c.toNat bB);rw[h']at this;cases this
theorem KC(h:isWord c=true):(∃t,wordTok (c::r)=some t/\pR (codes (c::r))=some (JP t,M3 t))\/(wordTok (c::r)=none/\pR (codes (c::r))=none):=by
 obtain⟨n1,n2⟩:=BB (r:=r) h;have ew:dU (codes (c::r))=decide (codes (c::r)∈kX):=by
  unfold dU;rw[aQ n1,aQ n2];rfl
 unfold pR;rw[ew];by_cases hn:(c::r)∈NAMES
 ·have hd:¬isDigit c=true:=by
   intro q;have:=G1 _ hn;rw[show((c::r).headD 0)=c from rfl,q]at this;cases this
  obtain⟨k,e1,e2⟩:=find_some hn;refine .inl ⟨.name k,?_,?_⟩
  ·rw[tF hd,e1];rfl
  ·rw[ai (aN (xC.mp hn))];show some (codes (c::r),0)=some (pI k,0);unfold pI;rw[e2]
 ·rw[ah (by rw[aQ (λq=>hn (xC.mpr q))];exact az)];by_cases hd:isDigit c=true
  ·rw[BC hd];cases ny (codes (c::r))with
   |none=>exact .inr ⟨rfl,rfl⟩
   |some n=>exact .inl ⟨.num n,rfl,rfl⟩
  ·refine .inr ⟨?_,?_⟩
   ·rw[tF hd,find_none hn];rfl
   ·rw[ND hd];rfl
theorem qm(b:Bytes):(txt b).length=b.length:=by unfold txt;rw[aH]
theorem M1(h:isBlank c=false):
  (∃t,pR (bJ (txt (c::r)))=some (JP t,M3 t)/\0<(bJ (txt (c::r))).length/\toks p (c::r)=(toks (p+(bJ (txt (c::r))).length) ((c::r).drop (bJ (txt (c::r))).length)).map λl=>(t,p)::l)\/
  (pR (bJ (txt (c::r)))=none/\toks p (c::r)= .error p):=by
 have nb:¬isBlank c=true:=by rw[h];exact az
 by_cases hw:isWord c=true
 ·have hq:bJ (txt (c::r))=codes ((c::r).takeWhile isWord):=by
   unfold bJ;rw[Dt,ai];rw[List.takeWhile_cons,ai hw];simp[codes]
  have e0:(c::r).takeWhile isWord=c::r.takeWhile isWord:=by rw[List.takeWhile_cons,ai hw]
  have hl:(codes ((c::r).takeWhile isWord)).length=((c::r).takeWhile isWord).length:=by unfold codes;rw[aH]
  rw[hq,hl,e0];rcases KC (c:=c) (r:=r.takeWhile isWord) hw with⟨t,e1,e2⟩|⟨e1,e2⟩
  ·refine .inl ⟨t,e2,by simp,?_⟩
   conv=>lhs;unfold toks;unfold tokens
   dsimp only;rw[ah nb,ai hw,e0,e1];dsimp only;rw[gN (c::r).length _ _ ((c::r).drop (c::r.takeWhile isWord).length) (by simp;omega) (Nat.lt_succ_self _)];rfl
  ·refine .inr ⟨e2,?_⟩
   conv=>lhs;unfold toks;unfold tokens
   dsimp only;rw[ah nb,ai hw,e0,e1]
 ·have T6:dN (sub c.toNat)=false:=by
   rw[G2,<-uQ];exact Bool.eq_false_iff.mpr hw
  have hq:bJ (txt (c::r))=if(txt (c::r)).take 2∈dD then(txt (c::r)).take 2 else [sub c.toNat]:=by
   unfold bJ;rw[ah]
   ·rfl
   ·show ¬0<((sub c.toNat::txt r).takeWhile dN).length;rw[List.takeWhile_cons,ah (by rw[T6];exact az)];simp
  rw[hq];by_cases h2:(txt (c::r)).take 2∈dD
  ·rw[ai h2];obtain⟨k,e1,e2⟩:=Nd h2;refine .inl ⟨.sign k,?_,by rw[uN h2];omega,?_⟩
   ·unfold pR dU;rw[aN h2];show some (_,0)=some (dW k,0);rw[e2]
   ·conv=>lhs;unfold toks;unfold tokens
    dsimp only;rw[ah nb,ah hw,e1,uN h2];dsimp only;rw[gN (c::r).length _ _ ((c::r).drop 2) (by simp;omega) (Nat.lt_succ_self _)];rfl
  ·rw[ah h2];by_cases h3:sub c.toNat∈dn
   ·obtain⟨k,e1,e2⟩:=JT h2 h3;refine .inl ⟨.sign k,?_,by simp,?_⟩
    ·unfold pR dU;rw[aN (show [sub c.toNat].length=1/\∀x∈[sub c.toNat],x∈dn from⟨rfl,by simpa using h3⟩),Bool.true_or,Bool.or_true,ai rfl];show some (_,0)=some (dW k,0);rw[e2]
    ·conv=>lhs;unfold toks;unfold tokens
     dsimp only;rw[ah nb,ah hw,e1];dsimp only;rw[gN (c::r).length _ _ ((c::r).drop 1) (by simp) (Nat.lt_succ_self _)];rfl
   ·refine .inr ⟨?_,?_⟩
    ·have hl:[sub c.toNat] ∉ dD:=λq=>absurd (uN q) (by simp)
     have hs:¬([sub c.toNat].length=1/\∀x∈[sub c.toNat],x∈dn):=λq=>h3 (q.2 _ bB)
     have hww:[sub c.toNat] ∉ kX:=by
      intro q;have:∀l∈kX,l.length≠1:=by decide
      exact this _ q rfl
     unfold pR dU;rw[aQ hl,aQ hs,aQ hww];show(ny [sub c.toNat]).map _=none;have:ny [sub c.toNat]=none:=by
      have hx:∀d,oK (sub c.toNat)=some d->¬d<10:=by
       intro d e q;have:=Ea e q;unfold dN at T6;rw[this]at T6;cases T6
      unfold ny;have h46:46 ∉ [sub c.toNat]:=by
       intro q;have e:sub c.toNat=46:=(List.mem_singleton.mp q).symm;rw[e]at T6;cases T6
      rw[ah (by simp),ah h46];unfold dm;rw[ah (by simp),A7 hx]
     rw[this];rfl
    ·conv=>lhs;unfold toks;unfold tokens
     dsimp only;rw[ah nb,ah hw,Nc h2 h3]
abbrev Known:=List (Option Nat)
def way(kn:Known)(q v:Nat):Option Known:=if kn.length<=q\/DEEP<v then none else match kn[q]? with
 |some (some w)=>if w=v then some kn else none
 |_=>some (kn.set q (some v))
def vX(p:Nat)(x:Nat×Nat)(h g:Nat)(kn:Known):Option Known:=if x.1=8 then some kn else match way kn (p+1) g with
 |none=>none
 |some k1=>if x.1=6\/x.1=7 then way k1 (p+1+x.2) h else some k1
def yt(x:Nat×Nat)(o:Option Nat):Option (Nat×Nat):=match o,needs x with
 |some h,some (t,u)=>if(x.1=6\/x.1=7)/\¬x.2<W then none else if t<=h then some (h,h - t+u)else none
 |_,_=>none
def OR:Known->Nat->Code->Option Nat
 |_,_,[]=>none
 |kn,p,x::c=>match yt x (kn[p]?).join with
  |none=>some p
  |some (h,g)=>match vX p x h g kn with
   |none=>some p
   |some k=>OR k (p+1) c
structure LB(n:Nat)(l:List (Nat×Nat))(kn:Known):Prop where
 len:kn.length=n
 at_:∀(q:Nat),((l.find? λy=>y.1==q).map (·.2))=(kn[q]?).join
 deep:∀(q h:Nat),(kn[q]?).join=some h->h<=DEEP
theorem LB.at2(R:LB n l kn)(q:Nat):(∃h,(l.find? λy=>y.1==q)=some (q,h)/\(kn[q]?).join=some h)\/((l.find? λy=>y.1==q)=none/\(kn[q]?).join=none):=by
 have e:=R.at_ q;cases h:l.find? λy=>y.1==q with
 |none=>
  rw[h]at e;exact .inr ⟨rfl,e.symm⟩
 |some y=>
  rw[h]at e;have:=List.find?_some h;have hy:y.1=q:=by simpa using this
  obtain⟨a,b⟩:=y;dsimp only at hy;subst hy;exact .inl ⟨b,rfl,e.symm⟩
theorem uI(R:LB n l kn)(hq:q<n)(hv:v<=DEEP):
  (∃m k,meet l q v=some m/\way kn q v=some k/\LB n m k/\(∀r y,(l.find? λz=>z.1==r)=some y->(m.find? λz=>z.1==r)=some y)/\(m.find? λz=>z.1==q)=some (q,v))\/(meet l q v=none/\way kn q v=none):=by
 have hlen:=R.len;unfold meet way;rw[ah (by omega)];rcases R.at2 q with⟨h,e1,e2⟩|⟨e1,e2⟩
 ·rw[e1];have e3:kn[q]? =some (some h):=by
   cases hk:kn[q]? with
   |none=>rw[hk]at e2;cases e2
   |some o=>rw[hk]at e2;cases o with
    |none=>cases e2
    |some w=>cases e2;rfl
  rw[e3];dsimp only;by_cases Wn:h=v
  ·subst Wn;rw[ai rfl,ai rfl];exact .inl ⟨l,kn,rfl,rfl,R,λ_ _ z=>z,e1⟩
  ·rw[ah Wn,ah Wn];exact .inr ⟨rfl,rfl⟩
 ·rw[e1];have e3:kn[q]? =some none:=by
   have:kn[q]? =some kn[q]:=bx (by omega);rw[this]at e2 ⊢;cases hk:kn[q]with
   |none=>rfl
   |some w=>rw[hk]at e2;cases e2
  rw[e3];dsimp only;refine .inl ⟨(q,v)::l,kn.set q (some v),rfl,rfl,⟨by rw[List.length_set];exact hlen,λr=>?_,λr h hr=>?_⟩,λr y hr=>?_,?_⟩
  ·rw[List.find?_cons];by_cases T8:q=r
   ·subst T8;simp only [beq_self_eq_true];rw[gr (by omega)];rfl
   ·rw[show(q==r)=false from beq_eq_false_iff_ne.mpr T8];dsimp only;rw[List.getElem?_set_ne T8];exact R.at_ r
  ·by_cases T8:q=r
   ·subst T8;rw[gr (by omega)]at hr;cases hr;exact hv
   ·rw[List.getElem?_set_ne T8]at hr;exact R.deep r h hr
  ·rw[List.find?_cons];by_cases T8:q=r
   ·subst T8;rw[e1]at hr;cases hr
   ·rw[show(q==r)=false from beq_eq_false_iff_ne.mpr T8];exact hr
  ·rw[List.find?_cons];simp only [beq_self_eq_true]
theorem DU(h:needs x=some (t,u))(hx:x.1=8):t=1/\u=0:=by
 unfold needs at h;simp[hx]at h;omega
theorem qk(hn:n<=MOST):∀(c:Code) (p:Nat) (l:List (Nat×Nat)) (kn:Known),c≠[]->p+c.length=n->LB n l kn->wrong n p l c=OR kn p c
 |[],_,_,_,h,_,_=>absurd rfl h
 |x::c,p,l,kn,_,hp,R=>by
  simp at hp;have hM:MOST=256:=rfl;have hW:W=18446744073709551616:=rfl;unfold wrong OR;rcases R.at2 p with⟨h,e1,e2⟩|⟨e1,e2⟩
  ·rw[e1,e2];cases en:needs x with
   |none=>
    unfold yt;rw[en]
   |some tu=>
    obtain⟨t,u⟩:=tu;have hd:=R.deep p h e2;unfold yt;rw[en];dsimp only;by_cases Oe:(x.1=6\/x.1=7)/\¬x.2<W
    ·rw[ai Oe];dsimp only;by_cases h1:h<t\/DEEP<h - t+u
     ·rw[ai h1]
     ·rw[ah h1];have h8:¬x.1=8:=by omega
      rw[ah h8];by_cases hc:c=[]
      ·rw[ai hc]
      ·rw[ah hc];cases meet l (p+1) (h - t+u)with
       |none=>rfl
       |some m=>
        dsimp only;rw[ai Oe.1,ai (by omega)]
    ·rw[ah Oe];by_cases ht:t<=h
     ·rw[ai ht];dsimp only;by_cases h1:DEEP<h - t+u
      ·rw[ai (.inr h1)];unfold vX;by_cases h8:x.1=8
       ·obtain⟨q1,q2⟩:=DU en h8;omega
       ·rw[ah h8];unfold way;rw[ai (.inr h1)]
      ·rw[ah (by omega)];unfold vX;by_cases h8:x.1=8
       ·rw[ai h8,ai h8];dsimp only;cases c with
        |nil=>rfl
        |cons y r=>
         rw[ah (by simp)];exact qk hn (y::r) (p+1) l kn (by simp) (by simp at hp ⊢;omega) R
       ·rw[ah h8,ah h8];by_cases hc:c=[]
        ·subst hc;rw[ai rfl];unfold way;rw[ai (.inl (by rw[R.len];simp at hp;omega))]
        ·rw[ah hc];have RA:0<c.length:=List.length_pos_iff.mpr hc;rcases uI R (q:=p+1) (v:=h - t+u) (by omega) (by omega)with⟨m,k,m1,m2,R1,_,_⟩|⟨m1,m2⟩
         ·rw[m1,m2];dsimp only;by_cases hj:x.1=6\/x.1=7
          ·rw[ai hj,ai hj];by_cases hb:n<=p+1+x.2
           ·rw[ai hb];unfold way;rw[ai (.inl (by rw[R1.len];exact hb))]
           ·rw[ah hb];rcases uI R1 (q:=p+1+x.2) (v:=h) (by omega) hd with⟨m',k',n1,n2,R2,_,_⟩|⟨n1,n2⟩
            ·rw[n1,n2];dsimp only;exact qk hn c (p+1) m' k' hc (by omega) R2
            ·rw[n1,n2]
          ·rw[ah hj,ah hj];exact qk hn c (p+1) m k hc (by omega) R1
         ·rw[m1,m2]
     ·rw[ah ht];dsimp only;rw[ai (.inl (by omega))]
  ·rw[e1,e2];rfl
def known0(n:Nat):Known:=(List.replicate n none).set 0 (some 0)
theorem wI(c:Code):fault c=if MOST<c.length then some MOST else if c.length=0 then some 0 else OR (known0 c.length) 0 c:=by
 unfold fault;by_cases h:MOST<c.length
 ·rw[ai h,ai h]
 ·rw[ah h,ah h];cases c with
  |nil=>rfl
  |cons x r=>
   rw[ah (by simp)];refine qk (by omega) (x::r) 0 _ _ (by simp) (by simp) ⟨by simp[known0],λq=>?_,λq h e=>?_⟩
   ·rw[List.find?_cons];by_cases hq:q=0
    ·subst hq;rfl
    ·rw[show((((0,0):Nat×Nat).1==q)=false)from beq_eq_false_iff_ne.mpr (Ne.symm hq)];unfold known0;rw[List.getElem?_set_ne (Ne.symm hq),List.getElem?_replicate];by_cases U0:q<(x::r).length
     ·rw[ai U0];rfl
     ·rw[ah U0];rfl
   ·by_cases hq:q=0
    ·subst hq;unfold known0 at e;rw[gr (by simp)]at e;cases e;exact bw _
    ·unfold known0 at e;rw[List.getElem?_set_ne (Ne.symm hq),List.getElem?_replicate]at e;split at e<;>cases e
structure Step(c:Code)(ht:Nat->Nat)(p:Nat)(x:Nat×Nat):Prop where
 tu:∃t u,needs x=some (t,u)/\t<=ht p/\(x.1≠8->p+1<c.length/\ht (p+1)=ht p - t+u)
 deep:ht p<=DEEP
 acy:x.1=6\/x.1=7->p+1+x.2<c.length/\ht (p+1+x.2)=ht p
structure Sound(c:Code)(ht:Nat->Nat):Prop where
 zero:ht 0=0
 ne:c≠[]
 most:c.length<=MOST
 at_:∀p x,c[p]? =some x->Step c ht p x
theorem my(c0:Code):∀(c:Code) (p:Nat) (l:List (Nat×Nat)) (kn:Known),c≠[]->c0.drop p=c->p+c.length=c0.length->LB c0.length l kn->wrong c0.length p l c=none->
  ∃ht:Nat->Nat,(∀q h,(l.find? λy=>y.1==q)=some (q,h)->ht q=h)/\∀q x,p<=q->c0[q]? =some x->Step c0 ht q x
 |[],_,_,_,h,_,_,_,_=>absurd rfl h
 |x::c,p,l,kn,_,U4,hp,R,hw=>by
  simp at hp;have hx:c0[p]? =some x:=by
   have:=congrArg (λl=>l[0]?) U4;simpa using this
  have KQ:c0.drop (p+1)=c:=by
   have:=congrArg (List.drop 1) U4;simpa [List.drop_drop,Nat.add_comm]using this
  unfold wrong at hw;rcases R.at2 p with⟨h,e1,e2⟩|⟨e1,e2⟩
  ·rw[e1]at hw;cases en:needs x with
   |none=>rw[en]at hw;cases hw
   |some tu=>
    obtain⟨t,u⟩:=tu;rw[en]at hw;dsimp only at hw;have hd:=R.deep p h e2;by_cases h1:h<t\/DEEP<h - t+u
    ·rw[ai h1]at hw;cases hw
    ·rw[ah h1]at hw;by_cases h8:x.1=8
     ·rw[ai h8]at hw;by_cases hc:c=[]
      ·subst hc;simp at hp;refine⟨λq=>((l.find? λy=>y.1==q).map (·.2)).getD 0,λq k e=>(by dsimp only;rw[e];rfl),λq y hq hy=>?_⟩;have Wr:q=p:=by
        have:=(List.getElem?_eq_some_iff.mp hy).1;omega
       subst Wr;rw[hx]at hy;cases hy;refine⟨⟨t,u,en,?_,λz=>absurd h8 z⟩,?_,λz=>by omega⟩
       ·rw[e1];show t<=h;omega
       ·rw[e1];exact hd
      ·rw[ah hc]at hw;obtain⟨ht,a1,a2⟩:=my c0 c (p+1) l kn hc KQ (by omega) R hw;refine⟨ht,a1,λq y hq hy=>?_⟩;by_cases Wr:q=p
       ·subst Wr;rw[hx]at hy;cases hy;have:=a1 q h e1;exact⟨⟨t,u,en,by omega,λz=>absurd h8 z⟩,by omega,λz=>by omega⟩
       ·exact a2 q y (by omega) hy
     ·rw[ah h8]at hw;by_cases hc:c=[]
      ·rw[ai hc]at hw;cases hw
      ·rw[ah hc]at hw;have RA:0<c.length:=List.length_pos_iff.mpr hc;rcases uI R (q:=p+1) (v:=h - t+u) (by omega) (by omega)with⟨m,k,m1,m2,R1,st1,at1⟩|⟨m1,m2⟩
       ·rw[m1]at hw;dsimp only at hw;by_cases hj:x.1=6\/x.1=7
        ·rw[ai hj]at hw;by_cases hb:c0.length<=p+1+x.2
         ·rw[ai hb]at hw;cases hw
         ·rw[ah hb]at hw;rcases uI R1 (q:=p+1+x.2) (v:=h) (by omega) hd with⟨m',k',n1,n2,R2,P9,at2⟩|⟨n1,n2⟩
          ·rw[n1]at hw;dsimp only at hw;obtain⟨ht,a1,a2⟩:=my c0 c (p+1) m' k' hc KQ (by omega) R2 hw;refine⟨ht,λq j e=>a1 q j (P9 q _ (st1 q _ e)),λq y hq hy=>?_⟩;by_cases Wr:q=p
           ·subst Wr;rw[hx]at hy;cases hy;have z1:=a1 q h (P9 q _ (st1 q _ e1));have z2:=a1 (q+1) _ (P9 _ _ at1);have z3:=a1 (q+1+x.2) _ at2;exact⟨⟨t,u,en,by omega,λ_=>⟨by omega,by omega⟩⟩,by omega,λ_=>⟨by omega,by omega⟩⟩
           ·exact a2 q y (by omega) hy
          ·rw[n1]at hw;cases hw
        ·rw[ah hj]at hw;obtain⟨ht,a1,a2⟩:=my c0 c (p+1) m k hc KQ (by omega) R1 hw;refine⟨ht,λq j e=>a1 q j (st1 q _ e),λq y hq hy=>?_⟩;by_cases Wr:q=p
         ·subst Wr;rw[hx]at hy;cases hy;have z1:=a1 q h (st1 q _ e1);have z2:=a1 (q+1) _ at1;exact⟨⟨t,u,en,by omega,λ_=>⟨by omega,by omega⟩⟩,by omega,λz=>absurd z hj⟩
         ·exact a2 q y (by omega) hy
       ·rw[m1]at hw;cases hw
  ·rw[e1]at hw;cases hw
theorem zr(h:fault c=none):∃ht,Sound c ht:=by
 unfold fault at h;split at h
 ·cases h
 ·rename_i hm;have fR:c≠[]:=by
   rintro rfl
   cases h
  have R:LB c.length [(0,0)] (known0 c.length):=by
   have hl:0<c.length:=List.length_pos_iff.mpr fR;refine⟨by simp[known0],λq=>?_,λq k e=>?_⟩
   ·rw[List.find?_cons];by_cases hq:q=0
    ·subst hq;unfold known0;rw[gr (by simp;omega)];rfl
    ·rw[show((((0,0):Nat×Nat).1==q)=false)from beq_eq_false_iff_ne.mpr (Ne.symm hq)];unfold known0;rw[List.getElem?_set_ne (Ne.symm hq),List.getElem?_replicate];by_cases U0:q<c.length
     ·rw[ai U0];rfl
     ·rw[ah U0];rfl
   ·by_cases hq:q=0
    ·subst hq;unfold known0 at e;rw[gr (by simp;omega)]at e;cases e;exact bw _
    ·unfold known0 at e;rw[List.getElem?_set_ne (Ne.symm hq),List.getElem?_replicate]at e;split at e<;>cases e
  obtain⟨ht,a1,a2⟩:=my c c 0 [(0,0)] (known0 c.length) fR rfl (by simp) R h;exact⟨ht,a1 0 0 rfl,fR,by omega,λp x hx=>a2 p x (bw _) hx⟩
def Goes(b:Bytes)(c:Code)(r:Bool)(p:Nat)(s:List Nat):Prop:=∀f,c.length - p<=f->run b f (c.drop p) s=r
theorem zO(b:Bytes):∀(f g:Nat) (c:Code) (s:List Nat),c.length<=f->c.length<=g->run b f c s=run b g c s
 |0,g,c,s,h1,h2=>by
  have:c=[]:=List.length_eq_zero_iff.mp (by omega);subst this;cases g<;>rfl
 |f+1,0,c,s,h1,h2=>by
  have:c=[]:=List.length_eq_zero_iff.mp (by omega);subst this;rfl
 |f+1,g+1,[],s,h1,h2=>rfl
 |f+1,g+1,x::c,s,h1,h2=>by
  simp at h1 h2;show(match stepped b x s with| .says r=>r| .on n t=>run b f (c.drop n) t)=(match stepped b x s with| .says r=>r| .on n t=>run b g (c.drop n) t);cases stepped b x s with
  |says r=>rfl
  |on n t=>exact zO b f g _ t (by rw[a_];omega) (by rw[a_];omega)
theorem Zz(b:Bytes)(c:Code):Goes b c (Code.says c b) 0 []:=λf hf=>zO b f c.length (c.drop 0) [] (by simpa using hf) (by simp)
theorem Goes.says(g:Goes b c r p s)(hx:c[p]? =some x)(e:stepped b x s= .says r'):r=r':=by
 obtain⟨hp,ex⟩:=List.getElem?_eq_some_iff.mp hx;have:=g (c.length+1) (by omega);rw[eT hp,ex]at this;rw[<-this];show(match stepped b x s with| .says r=>r| .on n t=>run b c.length ((c.drop (p+1)).drop n) t)=r';rw[e]
theorem Goes.on(g:Goes b c r p s)(hx:c[p]? =some x)(e:stepped b x s= .on n t):Goes b c r (p+1+n) t:=by
 intro f hf;obtain⟨hp,ex⟩:=List.getElem?_eq_some_iff.mp hx;have:=g (c.length+1) (by omega);rw[eT hp,ex]at this;rw[<-this];show _=(match stepped b x s with| .says r=>r| .on n t=>run b c.length ((c.drop (p+1)).drop n) t);rw[e];dsimp only;rw[List.drop_drop];exact zO b f c.length _ t (by rw[a_];omega) (by rw[a_];omega)
theorem xy(ha:a<W)(hb:b<W):reckoned k a b<W:=by
 have hW:0<W:=by decide
 unfold reckoned;split
 ·exact Nat.mod_lt _ hW
 ·split
  ·exact Nat.mod_lt _ hW
  ·split
   ·exact Nat.or_lt_two_pow ha hb
   ·split
    ·exact Nat.mod_lt _ hW
    ·split
     ·exact Nat.and_lt_two_pow _ hb
     ·split
      ·split
       ·exact Nat.mod_lt _ hW
       ·exact hW
      ·split
       ·exact gX (Nat.div_le_self _ _) ha
       ·exact hW
theorem Ih(b:Bytes)(c:UInt8):number (b++[c])=256*number b+c.toNat:=by
 unfold number;rw[List.foldl_append];rfl
theorem NC(b:Bytes):number b<256 ^ b.length:=by
 have gen:∀(b:Bytes) (n k:Nat),n<256 ^ k->b.foldl (λ(n:Nat) (c:UInt8)=>256*n+c.toNat) n<256 ^ (k+b.length):=by
  intro b
  induction b with
  |nil=>intro n k h;simpa using h
  |cons c b ih=>
   intro n k h;have hc:=c.toNat_lt;have q:256*n+c.toNat<256 ^ (k+1):=by
    rw[Nat.pow_succ];omega
   have:=ih (256*n+c.toNat) (k+1) q;simp only [List.foldl_cons,di];rw[show k+(b.length+1)=k+1+b.length by omega];exact this
 have:=gen b 0 0 (by decide);unfold number;simpa using this
end Fk
namespace L2
open PySem PySem.Spec PyProof.Rows
abbrev Key:=Sum Int Str
def AR:Key->Value->Bool
 | .inl k,v=>Value.isInt k v
 | .inr x,v=>Value.isStrOf x v
def YT(w:World):Key->Int
 | .inl k=>hashInt k
 | .inr x=>hashStr w x
theorem d3:∀{k:Key} {v:Value},AR k v=true->(∃i t,k=Sum.inl i/\v=Value.int i t)\/(∃x t,k=Sum.inr x/\v=Value.str x t)
 | .inl i,v,h=>by
  obtain⟨t,e⟩:=Value.isInt_shape (k:=i) (v:=v) h;exact .inl ⟨i,t,rfl,e⟩
 | .inr x,v,h=>by
  obtain⟨t,e⟩:=Value.isStrOf_shape (x:=x) (v:=v) h;exact .inr ⟨x,t,rfl,e⟩
theorem N3(i:Int)(t:Tok):AR (.inl i) (.int i t)=true:=by simp[AR,Value.isInt]
theorem N2(x:Str)(t:Tok):AR (.inr x) (.str x t)=true:=by simp[AR,Value.isStrOf]
theorem Wj(a b:Int):decide ((Sum.inl a:Key)=Sum.inl b)=(a==b):=by
 by_cases e:a=b
 ·subst e;simp
 ·have h:¬(Sum.inl a:Key)=Sum.inl b:=λq=>e (Sum.inl.inj q)
  rw[aQ h];exact(beq_eq_false_iff_ne.mpr e).symm
theorem Wg(a b:Str):decide ((Sum.inr a:Key)=Sum.inr b)=decide (a=b):=by
 by_cases e:a=b
 ·subst e;simp
 ·have h:¬(Sum.inr a:Key)=Sum.inr b:=λq=>e (Sum.inr.inj q)
  rw[aQ h,aQ e]
theorem Wi(a:Int)(b:Str):decide ((Sum.inl a:Key)=Sum.inr b)=false:=aQ (λq=>nomatch q)
theorem Wh(a:Str)(b:Int):decide ((Sum.inr a:Key)=Sum.inl b)=false:=aQ (λq=>nomatch q)
def dZ(prog:Program)(w:World):PySem.KeyKind prog w Key where
 is:=AR
 hash:=YT w
 inj:=λv a b ha hb=>by
  rcases d3 ha with⟨i,t,rfl,rfl⟩|⟨x,t,rfl,rfl⟩
  ·rcases d3 hb with⟨j,u,rfl,e⟩|⟨y,u,rfl,e⟩
   ·injection e with e1 _;rw[e1]
   ·exact nomatch e
  ·rcases d3 hb with⟨j,u,rfl,e⟩|⟨y,u,rfl,e⟩
   ·exact nomatch e
   ·injection e with e1 _;rw[e1]
 byValue:=λk v h=>by
  rcases d3 h with⟨i,t,rfl,rfl⟩|⟨x,t,rfl,rfl⟩<;>rfl
 pyHash:=λhv h=>by
  rcases d3 hv with⟨i,t,rfl,rfl⟩|⟨x,t,rfl,rfl⟩
  ·exact wpAny_pyHash_int h
  ·exact wpAny_pyHash_str h
 eqBool:=λhu hv h=>by
  rcases d3 hu with⟨i,t,rfl,rfl⟩|⟨x,t,rfl,rfl⟩
  ·rcases d3 hv with⟨j,u,rfl,rfl⟩|⟨y,u,rfl,rfl⟩
   ·rw[Wj]at h;exact wpAny_eqBool_int h
   ·rw[Wi]at h;exact SeqAt.EqAt.int_str i t y u _ _ _ _ h
  ·rcases d3 hv with⟨j,u,rfl,rfl⟩|⟨y,u,rfl,rfl⟩
   ·rw[Wh]at h;exact SeqAt.EqAt.str_int x t j u _ _ _ _ h
   ·rw[Wg]at h;exact wpAny_eqBool_str h
 «strs»:=λk x t v h=>by
  rcases d3 h with⟨i,u,rfl,e⟩|⟨y,u,rfl,e⟩
  ·exact nomatch e
  ·injection e with e1 _
   subst e1;cases v<;>rfl
theorem Ir(prog:Program)(w:World)(i:Int)(t:Tok):(dZ prog w).is (.inl i) (.int i t)=true:=N3 i t
theorem Iq(prog:Program)(w:World)(x:Str)(t:Tok):(dZ prog w).is (.inr x) (.str x t)=true:=N2 x t
end L2
namespace L2
open PySem PySem.Spec PyProof.Rows
inductive V where
 |dt|bl (b:Bool)|int (i:Int)|str (x:Str)|GC (b:Array UInt8)|RI (b:UInt64)|ref (a:Addr)|ty (n:String)
 deriving DecidableEq
def RelV:V->Value->Prop
 | .dt,u=>u=Value.none
 | .bl b,u=>u=Value.bool b
 | .int i,u=>∃t,u=Value.int i t
 | .str x,u=>∃t,u=Value.str x t
 | .GC b,u=>∃t,u=Value.bytes b t
 | .RI b,u=>∃t,u=Value.float b t
 | .ref a,u=>u=Value.ref a
 | .ty n,u=>u=Value.type n
abbrev Vals:List V->List Value->Prop:=Paired RelV
theorem Vals.length(r:Vals xs us):xs.length=us.length:=Paired.length r
theorem Vals.get:∀{xs:List V} {us:List Value} {i:Nat} {x:V},Vals xs us->xs[i]? =some x->∃u,us[i]? =some u/\RelV x u
 |_,_,_,_,.nil,e=>by simp at e
 |_,_,0,_,.cons r _,e=>by simp at e;subst e;exact⟨_,rfl,r⟩
 |_,_,i+1,x,.cons _ t,e=>by
  obtain⟨u,h1,h2⟩:=Vals.get (i:=i) (x:=x) t (by simpa using e);exact⟨u,by simpa using h1,h2⟩
theorem Vals.set(r:RelV x u):∀{xs:List V} {us:List Value} (i:Nat),Vals xs us->Vals (xs.set i x) (us.set i u)
 |_,_,_,.nil=>.nil
 |_,_,0,.cons _ t=>.cons r t
 |_,_,i+1,.cons q t=>.cons q (Vals.set r i t)
theorem Vals.append:∀{xs ys:List V} {us ws:List Value},Vals xs us->Vals ys ws->Vals (xs++ys) (us++ws)
 |_,_,_,_,.nil,s=>s
 |_,_,_,_,.cons r t,s=>.cons r (Vals.append t s)
theorem Vals.take:∀{xs:List V} {us:List Value} (n:Nat),Vals xs us->Vals (xs.take n) (us.take n)
 |_,_,0,_=>.nil
 |_,_,_+1,.nil=>.nil
 |_,_,n+1,.cons r t=>.cons r (Vals.take n t)
theorem Vals.drop:∀{xs:List V} {us:List Value} (n:Nat),Vals xs us->Vals (xs.drop n) (us.drop n)
 |_,_,0,r=>r
 |_,_,_+1,.nil=>.nil
 |_,_,n+1,.cons _ t=>Vals.drop n t
def oP:Option V->Option Value->Prop
 |some v,some u=>RelV v u
 |none,none=>True
 |_,_=>False
def KV{κ:Type}:List (κ×V)->List (κ×Value)->Prop:=Paired λ(p:κ×V) (q:κ×Value)=>p.1=q.1/\RelV p.2 q.2
def kV:Key->V
 | .inl i=>.int i
 | .inr x=>.str x
inductive HO where
 |lst (xs:List V)
 |tup (xs:List V)
 |dK (bD:List (Key×V))|dT (bD:List (List Key×V))
 |set (S:Int->Bool) (n:Nat)
 |ins (C dx:Addr) (fs:List (Str×V))
 |own (x:Addr)
 |xd (fs:List (Str×V))
 |met (f x:Addr)
 |Pq (lo hi:Int)
 |Ed (o:Obj) (u:HO)
 |UG (ps:Array Value)
 |ext (φ:Heap->Prop)
abbrev Hp:=Addr->Option HO
def upd(H:Hp)(a:Addr)(o:HO):Hp:=λb=>if b=a then some o else H b
theorem af:upd H a o a=some o:=by unfold upd;rw[ai rfl]
theorem ao(h:b≠a):upd H a o b=H b:=by unfold upd;rw[ah h]
theorem tI:upd (upd H a o) a u=upd H a u:=by
 funext b;unfold upd;split<;>rfl
theorem YG{H:Hp}(h:H a=some o)(h':H b=some u)(d:o≠u):a≠b:=by
 intro e;subst e;rw[h]at h';exact d (aO h')
theorem au{H:Hp}(h:H a=some o)(h':H b=none):a≠b:=by
 intro e;subst e;rw[h]at h';cases h'
section
variable (P:Program) (w:World)
def dO(H:Hp)(h:Heap)(a:Addr):HO->Prop
 | .lst xs=>xs.length<=sizeLine/\∃(its:List Value) (n:Nat),Vals xs its/\h.get? a=some {cls:=.type "list",data:=.seq its.toArray n}
 | .tup xs=>xs.length<=sizeLine/\∃its:List Value,Vals xs its/\IsTup h a its.toArray
 | .dK bD=>bD.length<=sizeLine/\(a==sysModules)=false/\∃vs,KV bD vs/\h.DictOf (dZ P w) a vs
 | .dT bD=>bD.length<=sizeLine/\(a==sysModules)=false/\∃xs:List (List Key×Addr×Value),
   Paired (λ(p:List Key×V) (q:List Key×Addr×Value)=>p.1=q.1/\H q.2.1=some (.tup (p.1.map kV))/\RelV p.2 q.2.2) bD xs/\
   ∃o es ep,h.get? a=some o/\o.ExactDict/\o.data= .dict es ep/\es.toList=xs.map (entryOfKey (tupleKind (dZ P w)))/\(xs.map (·.1)).Nodup
 | .set S n=>h.SetOf (intKind P w) a S n
 | .ins C dx fs=>H dx=some (.own a)/\fs.length<=1000/\dx≠a/\h.get? a=some (PySem.W.instObj C dx)/\
   ∃mA,h.Ns1 dx mA/\(∀f,oP (fs.lookup f) (mA f))/\PySem.Within mA (fs.map (·.1))
 | .own _=>∃o,h.get? a=some o
 | .xd fs=>∃mA,h.Ns1 a mA/\∀f,oP (fs.lookup f) (mA f)
 | .Pq lo hi=>∃t u v,h.get? a=some {cls:=.type "range",data:=.fields #[.int lo t,.int hi u,.int 1 v]}
 | .Ed o u=>h.get? a=some o/\dO H h a u
 | .UG ps=>h.get? a=some {cls:=.none,data:=.fields ps}
 | .met f x=>h.get? a=some (PySem.W.methodObj (.ref f) (.ref x))
 | .ext φ=>φ h/\(∃o,h.get? a=some o)/\∀h1 h2:Heap,φ h1->(∀o,h1.get? a=some o->h2.get? a=some o)->φ h2
def mm(H:Hp)(h:Heap):Prop:=∀a o,H a=some o->dO P w H h a o
end
section
variable {P:Program} {w:World} {H H':Hp} {h h':Heap} {a:Addr} {o:HO}
theorem dO.lt(x:dO P w H h a o):a<h.objs.size:=by
 cases o with
 |lst xs=>obtain⟨_,_,_,_,e⟩:=x;exact Heap.lt_size e
 |tup xs=>obtain⟨_,_,_,p⟩:=x;exact p.lt
 |dK bD=>obtain⟨_,_,_,_,o,_,_,e,_⟩:=x;exact Heap.lt_size e
 |dT bD=>obtain⟨_,_,_,_,o,_,_,e,_⟩:=x;exact Heap.lt_size e
 |set S n=>obtain⟨o,_,_,_,e,_⟩:=x;exact Heap.lt_size e
 |ins C dx fs=>obtain⟨_,_,_,e,_⟩:=x;exact Heap.lt_size e
 |own y=>obtain⟨_,e⟩:=x;exact Heap.lt_size e
 |xd fs=>obtain⟨_,⟨_,_,_,e,_⟩,_⟩:=x;exact Heap.lt_size e
 |Pq lo hi=>obtain⟨_,_,_,e⟩:=x;exact Heap.lt_size e
 |Ed ob u=>obtain⟨e,_⟩:=x;exact Heap.lt_size e
 |UG ps=>exact Heap.lt_size (show h.get? a=some _ from x)
 |met f y=>exact Heap.lt_size (show h.get? a=some _ from x)
 |ext φ=>obtain⟨_,⟨_,e⟩,_⟩:=x;exact Heap.lt_size e
theorem Paired.TV{α β:Type}{F G:α->β->Prop}:∀{l₁:List α} {l₂:List β},Paired F l₁ l₂->(∀a b,F a b->G a b)->Paired G l₁ l₂
 |_,_,.nil,_=>.nil
 |_,_,.cons r t,f=>.cons (f _ _ r) (Paired.TV t f)
theorem dO.ED(x:dO P w H h a o)(k:∀b u,(b=a\/H b=some (.own a))->h.get? b=some u->h'.get? b=some u)
  (ho:∀b,H b=some (.own a)->H' b=some (.own a)) (ht:∀b xs,H b=some (.tup xs)->H' b=some (.tup xs)):dO P w H' h' a o:=by
 induction o with
 |lst xs=>obtain⟨z,its,n,r,e⟩:=x;exact⟨z,its,n,r,k _ _ (.inl rfl) e⟩
 |tup xs=>obtain⟨z,its,r,ob,e,c⟩:=x;exact⟨z,its,r,ob,k _ _ (.inl rfl) e,c⟩
 |dK bD=>obtain⟨z,y,vs,r,ob,es,ep,e,c⟩:=x;exact⟨z,y,vs,r,ob,es,ep,k _ _ (.inl rfl) e,c⟩
 |dT bD=>
  obtain⟨z,y,xs,r,ob,es,ep,e,c⟩:=x;exact⟨z,y,xs,Paired.TV r λp q z=>⟨z.1,ht _ _ z.2.1,z.2.2⟩,ob,es,ep,k _ _ (.inl rfl) e,c⟩
 |set S n=>obtain⟨ob,es,ep,t,e,c⟩:=x;exact⟨ob,es,ep,t,k _ _ (.inl rfl) e,c⟩
 |ins C dx fs=>
  obtain⟨d,z,ne,e,mA,⟨od,es,ep,e2,c⟩,r⟩:=x;exact⟨ho _ d,z,ne,k _ _ (.inl rfl) e,mA,⟨od,es,ep,k _ _ (.inr d) e2,c⟩,r⟩
 |own y=>obtain⟨ob,e⟩:=x;exact⟨ob,k _ _ (.inl rfl) e⟩
 |xd fs=>obtain⟨mA,⟨od,es,ep,e,c⟩,r⟩:=x;exact⟨mA,⟨od,es,ep,k _ _ (.inl rfl) e,c⟩,r⟩
 |Pq lo hi=>obtain⟨t,u,v,e⟩:=x;exact⟨t,u,v,k _ _ (.inl rfl) e⟩
 |Ed ob u ih=>obtain⟨e,q⟩:=x;exact⟨k _ _ (.inl rfl) e,ih q⟩
 |UG ps=>
  have e:h.get? a=some {cls:=.none,data:=.fields ps}:=x;show h'.get? a=some {cls:=.none,data:=.fields ps};exact k a _ (.inl rfl) e
 |met f y=>
  have e:h.get? a=some (PySem.W.methodObj (.ref f) (.ref y)):=x;show h'.get? a=some (PySem.W.methodObj (.ref f) (.ref y));exact k a _ (.inl rfl) e
 |ext φ=>obtain⟨p,⟨o,e⟩,st⟩:=x;exact⟨st _ _ p λo q=>k _ _ (.inl rfl) q,⟨o,k _ _ (.inl rfl) e⟩,st⟩
theorem mm.lt(x:mm P w H h)(e:H a=some o):a<h.objs.size:=(x a o e).lt
theorem mm.fresh(x:mm P w H h)(e:h.objs.size<=a):H a=none:=by
 cases q:H a with
 |none=>rfl
 |some u=>exact absurd (dh (x.lt q) e) (Nat.lt_irrefl _)
theorem mm.kept(x:mm P w H h)(k:∀b u,h.get? b=some u->h'.get? b=some u):mm P w H h':=λa o e=>
 (x a o e).ED (λb u _ q=>k b u q) (λ_ q=>q) λ_ _ q=>q
theorem mm.laid(x:mm P w H h)(k:∀b u,h.get? b=some u->h'.get? b=some u)(hp:h.objs.size<=a)(new:dO P w (upd H a o) h' a o):mm P w (upd H a o) h':=λb u e=>by
 have hn:=x.fresh hp;by_cases hb:b=a
 ·subst hb;rw[af]at e;cases e;exact new
 ·rw[ao hb]at e;exact(x b u e).ED (λc v _ q=>k c v q) (λc q=>by rw[ao (au q hn)];exact q) λc xs q=>by rw[ao (au q hn)];exact q
end
def Rd(H:Hp)(a:Addr)(u:HO):Prop:=H a=some u\/∃o,H a=some (.Ed o u)
theorem Rd.ok(r:Rd H a u)(x:mm P w H h):dO P w H h a u:=by
 rcases r with r|⟨o,r⟩
 ·exact x a u r
 ·obtain⟨_,q⟩:=x a _ r;exact q
def Z0:Option HO->Prop
 |some (.lst _)=>True
 |some (.dK _)=>True
 |some (.dT _)=>True
 |some (.set _ _)=>True
 |some (.ins _ _ _)=>True
 |some (.ext _)=>True
 |_=>False
section
variable {P:Program} {w:World} {H:Hp} {h h':Heap} {x e:Addr} {o':HO}
theorem mm.write(ok:mm P w H h)(mu:Z0 (H x))(he:e=x\/H e=some (.own x))(k:∀b u,b≠e->h.get? b=some u->h'.get? b=some u)(Xt:∃u,h'.get? e=some u)
  (new:dO P w (upd H x o') h' x o'):mm P w (upd H x o') h':=λb u q=>by
 have YE:∀c y,H c=some (.own y)->c≠x:=λc y r z=>by subst z;rw[r]at mu;exact mu
 have abu:∀c xs,H c=some (.tup xs)->c≠x:=λc xs r z=>by subst z;rw[r]at mu;exact mu
 by_cases hb:b=x
 ·subst hb;rw[af]at q;cases q;exact new
 ·rw[ao hb]at q;by_cases WE:b=e
  ·have q':H b=some (.own x):=by
    rcases he with z|z
    ·exact absurd (WE.trans z) hb
    ·rw[WE];exact z
   rw[q]at q';cases q';obtain⟨v,hv⟩:=Xt;exact⟨v,by rw[WE];exact hv⟩
  ·refine(ok b u q).ED (λc v hc r=>k c v ?_ r) (λc r=>by rw[ao (YE c b r)];exact r) λc xs r=>by rw[ao (abu c xs r)];exact r
   rcases hc with rfl|hc
   ·exact WE
   ·rintro rfl
    rcases he with z|z
    ·exact YE c b hc z
    ·rw[hc]at z;cases z;exact hb rfl
end
structure Un(fs ex:List Addr)(H H':Hp)(h h':Heap):Prop where
 keep:∀b o,h.get? b=some o->H b=none->b ∉ fs->b ∉ ex->h'.get? b=some o
 slot:∀b o,h.get? b=some o->H b=none->b∈fs->b ∉ ex->∃sl,h'.get? b=some {o with slots:=sl}
 free:∀b o,h.get? b=some o->H b=none->b ∉ ex->H' b=none
 there:∀b o,h.get? b=some o->b ∉ ex->∃o',h'.get? b=some o'
 xS:∀b xs,H b=some (.tup xs)->H' b=some (.tup xs)
 wF:∀b o u,H b=some (.Ed o u)->H' b=some (.Ed o u)
 xT:∀b ps,H b=some (.UG ps)->∃more,H' b=some (.UG (ps++more))
section
variable {fs fs' ex ex':List Addr} {H H1 H2:Hp} {h h1 h2 h':Heap} {a x e:Addr} {o:HO}
theorem Un.any(u:Un fs ex H H1 h h1)(q:h.get? b=some ob)(n:H b=none)(hx:b ∉ ex):∃sl,h1.get? b=some {ob with slots:=sl}:=by
 by_cases hb:b∈fs
 ·exact u.slot b ob q n hb hx
 ·exact⟨ob.slots,u.keep b ob q n hb hx⟩
theorem Un.kept(k:∀b u,h.get? b=some u->h'.get? b=some u):Un fs ex H H h h':=
 ⟨λb ob q _ _ _=>k b ob q,λb ob q _ _ _=>⟨ob.slots,k b ob q⟩,λ_ _ _ n _=>n,λb ob q _=>⟨ob,k b ob q⟩,λ_ _ q=>q,λ_ _ _ q=>q,λ_ ps q=>⟨#[],by rw[q];simp⟩⟩
theorem Un.refl:Un fs ex H H h h:=Un.kept λ_ _ q=>q
theorem Un.laid(k:∀b u,h.get? b=some u->h'.get? b=some u)(hp:h.objs.size<=a)(hn:H a=none):Un fs ex H (upd H a o) h h' where
 keep:=λb u q _ _ _=>k b u q
 slot:=λb u q _ _ _=>⟨u.slots,k b u q⟩
 free:=λb u q n _=>by rw[ao (Nat.ne_of_lt (dh (Heap.lt_size q) hp))];exact n
 there:=λb u q _=>⟨u,k b u q⟩
 xS:=λb xs q=>by rw[ao (au q hn)];exact q
 wF:=λb u xs q=>by rw[ao (au q hn)];exact q
 xT:=λb ps q=>⟨#[],by rw[ao (au q hn),q];simp⟩
theorem Un.write(mu:Z0 (H x))(he:e=x\/H e=some (.own x))(k:∀b u,b≠e->h.get? b=some u->h'.get? b=some u)(Xt:∃u,h'.get? e=some u):Un fs ex H (upd H x o) h h':=by
 have hx:∀b,H b=none->b≠x:=λb n z=>by subst z;rw[n]at mu;exact mu
 have hb:∀b,H b=none->b≠e:=λb n z=>by
  subst z;rcases he with r|r
  ·exact hx b n r
  ·rw[n]at r;cases r
 have hm:∀b u,H b=some u->¬Z0 (some u)->b≠x:=λb u q nm z=>by subst z;rw[q]at mu;exact nm mu
 refine⟨λb u q n _ _=>k b u (hb b n) q,λb u q n _ _=>⟨u.slots,k b u (hb b n) q⟩,λb u q n _=>by rw[ao (hx b n)];exact n,λb u q _=>?_,
  λb xs q=>by rw[ao (hm b _ q λz=>z)];exact q,λb u xs q=>by rw[ao (hm b _ q λz=>z)];exact q,λb ps q=>⟨#[],by rw[ao (hm b _ q λz=>z),q];simp⟩⟩
 by_cases WE:b=e
 ·subst WE;exact Xt
 ·exact⟨u,k b u WE q⟩
end
def PN(h:Heap)(H:Hp):List Addr:=(List.range h.objs.size).filter λa=>(H a).isSome
def FZ(h:Heap)(H:Hp):Heap:=PySem.W.hideAll h (PN h H)
theorem Oc(h:Heap)(H:Hp):(FZ h H).objs.size=h.objs.size:=PySem.W.hideAll_size _ _
theorem Rw{h:Heap}{H:Hp}(e:h.get? b=some o)(n:H b=none):(FZ h H).get? b=some o:=
 PySem.W.hideAll_get _ e λhm=>by
  have q:(H b).isSome=true:=(List.mem_filter.mp hm).2;rw[n]at q;simp at q
theorem TH(e:(FZ h H).get? b=some o):h.get? b=some o/\H b=none:=by
 have e':h.get? b=some o:=PySem.W.of_hideAll (PN h H) e;refine⟨e',?_⟩;cases q:H b with
 |none=>rfl
 |some x=>
  have hm:b∈PN h H:=List.mem_filter.mpr ⟨List.mem_range.mpr (Heap.lt_size e'),by simp[q]⟩;have z:(FZ h H).get? b=none:=PySem.W.hideAll_none (PN h H) hm;rw[z]at e;cases e
end L2
namespace L2
open PySem PySem.Spec PyProof.Rows
structure Mod(K:PySem.W.Frag)(mg:Str->Option Value)(base:Heap):Prop where
 UU:K.In base
 glob:base.Ns mainGlobals mg
 blt:∃mb,base.Ns builtinsNs mb/\∀x:Str,x≠"__name__"->mb x=bootBuiltins x
 nolimit:base.NoLimit
structure Cx where
 prog:Program
 w:World
 K:PySem.W.Frag
 mg:Str->Option Value
 base:Heap
 A:Around
 N:List Str
 BS:Shared
 Z6:Hp
 env:Env
 outer:List Env
 stack:List Env
 ex:List Addr
 fn:Str->Bool
 calm:Bool
 pn:List (Addr×Obj)
 xe:Value->Shared->Prop
def oN(l:List Env):List Addr:=l.filterMap (·.frame)
abbrev Cx.fs(X:Cx):List Addr:=oN X.outer
def XH(sc:Scope)(x:Str):Prop:=sc.names.lookup x=some .local\/sc.names.lookup x=some .cell\/sc.names.lookup x=some .free
def Loc(sc:Scope)(x:Str):Prop:=sc.names.lookup x=some .local\/sc.names.lookup x=some .cell
def Look(env:Env)(h:Heap)(m:Str->Option Value)(x:Str)(u:Value):Prop:=
 (env.kindOf x=some .local/\m x=some u)\/((env.kindOf x=some .cell\/env.kindOf x=some .free)/\∃c,env.cells.lookup x=some c/\h.IsCell c (some u))
structure Cx.Ok(X:Cx):Prop where
 mod:Mod X.K X.mg X.base
 kind:X.env.scope.kind= .function
 glob:X.env.globals=mainGlobals
 blt:X.env.builtins=builtinsNs
 above:X.BS.heap.objs.size<=X.env.locals
 inj:∀x y c,X.env.cells.lookup x=some c->X.env.cells.lookup y=some c->x=y
 has:∀x,(X.env.kindOf x=some .cell\/X.env.kindOf x=some .free)->∃c,X.env.cells.lookup x=some c
 W6:∀x c,X.fn x=true->X.env.cells.lookup x=some c->X.BS.heap.objs.size<=c
 hd:X.calm=true->X.A.handled=none
 frames:X.A.frames=some X.stack
 om:X.stack=X.outer\/(X.stack=X.env::X.outer/\X.env.frame=some X.env.locals)
 XE:∀b∈X.ex,b≠X.env.locals/\∀x c,X.env.cells.lookup x=some c->c≠b
 bs:∀b o,X.base.get? b=some o->X.BS.heap.get? b=some o/\X.Z6 b=none
 R8:X.base.objs.size<=X.BS.heap.objs.size
 Kp:∀b o,X.base.get? b=some o->b ∉ X.ex
 K3:∀b∈X.ex,b ∉ X.fs
 oM:X.BS.heap.FunFrames X.base X.outer
 Uh:∀b∈X.fs,X.Z6 b=none
structure Inv(X:Cx)(pins:List (Addr×Obj))(σ:List (Option V))(H:Hp)(s:Shared):Prop where
 ok:X.Ok
 os:s.os=X.BS.os
 bare:AllBare s.gens
 base:Un X.fs X.ex X.Z6 H X.BS.heap s.heap
 loc:∃m,s.heap.Ns X.env.locals m/\∀(i:Nat) (x:Str) (v:V),X.N[i]? =some x->σ[i]? =some (some v)->XH X.env.scope x->∃u,RelV v u/\Look X.env s.heap m x u
 cell:∀x c,X.env.cells.lookup x=some c->∃v,s.heap.IsCell c v
 free:H X.env.locals=none
 jv:∀x c,X.env.cells.lookup x=some c->H c=none
 pin:∀p∈X.pn++pins,s.heap.get? p.1=some p.2/\H p.1=none/\p.1≠X.env.locals/\p.1 ∉ X.fs/\∀v,p.2.data≠ .cell v
 cM:mm X.prog X.w H s.heap
 len:σ.length=X.N.length
section
variable {X:Cx} {pins:List (Addr×Obj)} {σ:List (Option V)} {H H':Hp} {s:Shared} {h':Heap}
theorem Cx.Ok.abw(ok:X.Ok)(e:X.base.get? b=some o):b ∉ X.fs:=λhb=>by
 have:=(ok.oM.mem hb).1;rw[e]at this;cases this
theorem Inv.bs(I:Inv X pins σ H s):∀b o,X.base.get? b=some o->s.heap.get? b=some o/\H b=none:=λb o e=>
 ⟨I.base.keep b o (I.ok.bs b o e).1 (I.ok.bs b o e).2 (I.ok.abw e) (I.ok.Kp b o e),I.base.free b o (I.ok.bs b o e).1 (I.ok.bs b o e).2 (I.ok.Kp b o e)⟩
theorem Inv.bk(I:Inv X pins σ H s):∀b o,X.base.get? b=some o->s.heap.get? b=some o:=λb o e=>(I.bs b o e).1
theorem Inv.mod(I:Inv X pins σ H s):Mod X.K X.mg X.base:=I.ok.mod
theorem Inv.yM(I:Inv X pins σ H s):X.K.In s.heap:=I.ok.mod.UU.keeps I.bk
theorem Inv.nolimit(I:Inv X pins σ H s):s.heap.NoLimit:=I.ok.mod.nolimit.keeps I.bk
theorem Inv.lt(I:Inv X pins σ H s):X.env.locals<s.heap.objs.size:=let ⟨_,hn,_⟩:=I.loc;hn.lt
theorem Inv.sz(I:Inv X pins σ H s):X.BS.heap.objs.size<=s.heap.objs.size:=a8 I.ok.above (qj I.lt)
theorem Inv.abv(I:Inv X pins σ H s)(h:s.heap.objs.size<=a):a ∉ X.fs:=λhb=>by
 obtain⟨_,o,ho,_⟩:=I.ok.oM.mem hb;exact absurd (dh (Heap.lt_size ho) (a8 I.sz h)) (Nat.lt_irrefl _)
theorem Inv.Uv(I:Inv X pins σ H s):∀x c,X.env.cells.lookup x=some c->c≠X.env.locals:=λx c e z=>by
 obtain⟨v,o,ho,hd⟩:=I.cell x c e;obtain⟨m,⟨o',es,ep,JD,hd',_⟩,_⟩:=I.loc;rw[z,JD]at ho;cases ho;rw[hd']at hd;cases hd
theorem Inv.oM(I:Inv X pins σ H s):s.heap.FunFrames X.base X.outer:=by
 have all:∀(l:List Env),(∀b∈oN l,b∈X.fs)->X.BS.heap.FunFrames X.base l->s.heap.FunFrames X.base l:=by
  intro l
  induction l with
  |nil=>intro _ _;trivial
  |cons env r ih=>
   intro hs hl;obtain⟨hk,⟨L,o,hf,hn,ho,hd⟩,hr⟩:=hl;have hL:L∈X.fs:=hs L (by unfold oN;rw[List.filterMap_cons,hf];exact bB);obtain⟨sl,e⟩:=I.base.slot L o ho (I.ok.Uh L hL) hL λz=>I.ok.K3 L z hL
   exact⟨hk,⟨L,_,hf,hn,e,hd⟩,ih (λb hb=>hs b (by unfold oN;rw[List.filterMap_cons,hf];exact aS _ hb)) hr⟩
 exact all X.outer (λ_ hb=>hb) I.ok.oM
theorem Inv.stack(I:Inv X pins σ H s):s.heap.FunFrames X.base X.stack:=by
 rcases I.ok.om with e|⟨e,hf⟩
 ·rw[e];exact I.oM
 ·rw[e];obtain⟨m,hn,_⟩:=I.loc;refine .cons (by rw[I.ok.kind];decide) hf hn ?_ I.oM;exact Heap.get?_none_of_le (a8 I.ok.R8 I.ok.above)
theorem Inv.JQ(I:Inv X pins σ H s):∀b∈oN X.stack,b∈X.env.locals::X.fs:=λb hb=>by
 rcases I.ok.om with e|⟨e,hf⟩
 ·rw[e]at hb;exact aS _ hb
 ·rw[e]at hb;unfold oN at hb;rw[List.filterMap_cons,hf]at hb;exact hb
theorem Inv.qt(I:Inv X pins σ H s):∀b∈oN X.stack,H b=none:=λb hb=>by
 rcases List.mem_cons.mp (I.JQ b hb)with e|hb
 ·rw[e];exact I.free
 ·obtain⟨_,o,ho,_⟩:=I.ok.oM.mem hb;exact I.base.free b o ho (I.ok.Uh b hb) λz=>I.ok.K3 b z hb
theorem Inv.step{g':Array GenState}{t':Nat}{d':Drawn}{ch:List Addr}(I:Inv X pins σ H s)
  (SA:∀b∈ch,(b∈X.ex\/X.BS.heap.objs.size<=b)/\b≠X.env.locals/\(∀x c,X.env.cells.lookup x=some c->c≠b)/\∀p∈X.pn++pins,p.1≠b)
  (keep:∀b o,b≠X.env.locals->b ∉ X.fs->b ∉ ch->s.heap.get? b=some o->H b=none->h'.get? b=some o)
  (slot:∀b o,b≠X.env.locals->b∈X.fs->b ∉ ch->s.heap.get? b=some o->H b=none->∃sl,h'.get? b=some {o with slots:=sl}) (free:∀b o,b ∉ ch->s.heap.get? b=some o->H b=none->H' b=none)
  (there:∀b o,b ∉ ch->s.heap.get? b=some o->∃o',h'.get? b=some o')
  (xS:∀b xs,H b=some (.tup xs)->H' b=some (.tup xs)) (wF:∀b o u,H b=some (.Ed o u)->H' b=some (.Ed o u)) (xT:∀b ps,H b=some (.UG ps)->∃more,H' b=some (.UG (ps++more)))
  (ns:∀m,s.heap.Ns X.env.locals m->h'.Ns X.env.locals m) (cM:mm X.prog X.w H' h') (hg:AllBare g'):
  Inv X pins σ H' {s with heap:=h',gens:=g',drawn:=d',toks:=t'}:=by
 have Xl:∀b o,X.BS.heap.get? b=some o->b≠X.env.locals:=λb o e=>Nat.ne_of_lt (dh (Heap.lt_size e) I.ok.above)
 have YH:∀b o,X.BS.heap.get? b=some o->b ∉ X.ex->b ∉ ch:=λb o e hx hb=>by
  rcases(SA b hb).1 with z|z
  ·exact hx z
  ·exact absurd (dh (Heap.lt_size e) z) (Nat.lt_irrefl _)
 have cellK:∀x c,X.env.cells.lookup x=some c->∀v,s.heap.IsCell c v->h'.IsCell c v:=λx c e v ⟨o,ho,hd⟩=>by
  have YI:c ∉ ch:=λz=>(SA c z).2.2.1 x c e rfl
  by_cases hc:c∈X.fs
  ·obtain⟨sl,q⟩:=slot c o (I.Uv x c e) hc YI ho (I.jv x c e);exact⟨_,q,hd⟩
  ·exact⟨o,keep c o (I.Uv x c e) hc YI ho (I.jv x c e),hd⟩
 refine⟨I.ok,I.os,hg,⟨λb o e n hb hx=>?_,λb o e n hb hx=>?_,λb o e n hx=>?_,λb o e hx=>?_,λb xs e=>xS b xs (I.base.xS b xs e),λb o xs e=>wF b o xs (I.base.wF b o xs e),λb ps e=>?_⟩,?_,λx c e=>?_,?_,λx c e=>?_,λp hp=>?_,cM,I.len⟩
 ·exact keep b o (Xl b o e) hb (YH b o e hx) (I.base.keep b o e n hb hx) (I.base.free b o e n hx)
 ·obtain⟨sl,e1⟩:=I.base.slot b o e n hb hx;obtain⟨Xh,e2⟩:=slot b _ (Xl b o e) hb (YH b o e hx) e1 (I.base.free b o e n hx);exact⟨Xh,e2⟩
 ·obtain⟨o',e1⟩:=I.base.there b o e hx;exact free b o' (YH b o e hx) e1 (I.base.free b o e n hx)
 ·obtain⟨o',e1⟩:=I.base.there b o e hx;exact there b o' (YH b o e hx) e1
 ·obtain⟨m1,e1⟩:=I.base.xT b ps e;obtain⟨m2,e2⟩:=xT b _ e1;exact⟨m1++m2,by rw[e2,Array.append_assoc]⟩
 ·obtain⟨m,hn,hl⟩:=I.loc;refine⟨m,ns m hn,λi x v e1 e2 e3=>?_⟩;obtain⟨u,r,l⟩:=hl i x v e1 e2 e3;refine⟨u,r,?_⟩;rcases l with l|⟨k,c,e,z⟩
  ·exact .inl l
  ·exact .inr ⟨k,c,e,cellK x c e _ z⟩
 ·obtain⟨v,z⟩:=I.cell x c e;exact⟨v,cellK x c e v z⟩
 ·obtain⟨m,⟨o,_,_,ho,_⟩,_⟩:=I.loc;exact free _ o (λz=>(SA _ z).2.1 rfl) ho I.free
 ·obtain⟨v,o,ho,hd⟩:=I.cell x c e;exact free c o (λz=>(SA c z).2.2.1 x c e rfl) ho (I.jv x c e)
 ·obtain⟨e,n,ne,nf,d⟩:=I.pin p hp;have YI:p.1 ∉ ch:=λz=>(SA p.1 z).2.2.2 p hp rfl
  exact⟨keep p.1 p.2 ne nf YI e n,free p.1 p.2 YI e n,ne,nf,d⟩
theorem Inv.un{t':Nat}(I:Inv X pins σ H s)(u:Un X.fs [] H H' s.heap h')(cM:mm X.prog X.w H' h'):Inv X pins σ H' {s with heap:=h',toks:=t'}:=by
 obtain⟨m,⟨o,es,ep,ho,r⟩,_⟩:=id I.loc;obtain⟨sl,hL⟩:=u.any ho I.free (by simp);exact I.step (g':=s.gens) (d':=s.drawn) (ch:=[]) (λ_ z=>nomatch z) (λb o _ hb _ e n=>u.keep b o e n hb (by simp)) (λb o _ hb _ e n=>u.slot b o e n hb (by simp)) (λb o _ e n=>u.free b o e n (by simp)) (λb o _ e=>u.there b o e (by simp)) u.xS u.wF u.xT (λm' hm=>by
  obtain⟨o',es',ep',JD,r'⟩:=hm;rw[ho]at JD;cases JD;exact⟨_,es',ep',hL,r'⟩) cM I.bare
theorem Inv.call{t':Nat}{d':Drawn}(I:Inv X pins σ H s)(u:Un (oN X.stack) ch H H' s.heap h')(cM:mm X.prog X.w H' h')(hg:AllBare g')
  (SA:∀b∈ch,(b∈X.ex\/X.BS.heap.objs.size<=b)/\b≠X.env.locals/\(∀x c,X.env.cells.lookup x=some c->c≠b)/\∀p∈X.pn++pins,p.1≠b):
  Inv X pins σ H' {s with heap:=h',gens:=g',drawn:=d',toks:=t'}:=by
 obtain⟨m,⟨o,es,ep,ho,r⟩,_⟩:=id I.loc;obtain⟨sl,hL⟩:=u.any ho I.free λz=>(SA _ z).2.1 rfl
 exact I.step (ch:=ch) SA (λb o hL hb hc e n=>u.keep b o e n (λz=>(List.mem_cons.mp (I.JQ b z)).elim hL hb) hc) (λb o _ _ hc e n=>u.any e n hc) (λb o hc e n=>u.free b o e n hc) (λb o hc e=>u.there b o e hc) u.xS u.wF u.xT (λm' hm=>by
  obtain⟨o',es',ep',JD,r'⟩:=hm;rw[ho]at JD;cases JD;exact⟨_,es',ep',hL,r'⟩) cM hg
theorem Inv.turned{t':Nat}(I:Inv X pins σ H s)(k:∀b o,b≠it->s.heap.get? b=some o->h'.get? b=some o)(hn:H it=none)(hL:it≠X.env.locals)
  (h1:it∈X.ex\/X.BS.heap.objs.size<=it) (h2:∀x c,X.env.cells.lookup x=some c->c≠it) (h3:∀p∈X.pn++pins,p.1≠it):Inv X pins σ H {s with heap:=h',toks:=t'}:=by
 have YF:∀b u,H b=some u->b≠it:=λb u e z=>by rw[z,hn]at e;cases e
 refine I.step (g':=s.gens) (d':=s.drawn) (ch:=[it]) (λb hb=>?_) (λb o _ _ hc e _=>k b o (λz=>hc (by simp[z])) e) (λb o _ _ hc e _=>⟨o.slots,k b o (λz=>hc (by simp[z])) e⟩) (λ_ _ _ _ n=>n)
  (λb o hc e=>⟨o,k b o (λz=>hc (by simp[z])) e⟩) (λ_ _ e=>e) (λ_ _ _ e=>e) (λb ps e=>⟨#[],by rw[e];simp⟩) (λm hm=>?_) (λb u e=>?_) I.bare
 ·have e:b=it:=by simpa using hb
  subst e;exact⟨h1,hL,h2,h3⟩
 ·obtain⟨o,es,ep,ho,r⟩:=hm;exact⟨o,es,ep,k _ o (Ne.symm hL) ho,r⟩
 ·refine(I.cM b u e).ED (λc v hc q=>k c v ?_ q) (λ_ q=>q) λ_ _ q=>q
  rcases hc with z|z
  ·rw[z];exact YF b u e
  ·exact YF c _ z
theorem Inv.tok(I:Inv X pins σ H s)(t:Nat):Inv X pins σ H {s with toks:=t}:=I.un (h':=s.heap) (t':=t) Un.refl I.cM
theorem Inv.kept{t':Nat}(I:Inv X pins σ H s)(k:∀b u,s.heap.get? b=some u->h'.get? b=some u):Inv X pins σ H {s with heap:=h',toks:=t'}:=I.un (Un.kept k) (I.cM.kept k)
theorem Inv.laid{t':Nat}(I:Inv X pins σ H s)(k:∀b u,s.heap.get? b=some u->h'.get? b=some u)(hp:s.heap.objs.size<=a)(new:dO X.prog X.w (upd H a o) h' a o):
  Inv X pins σ (upd H a o) {s with heap:=h',toks:=t'}:=I.un (Un.laid k hp (I.cM.fresh hp)) (I.cM.laid k hp new)
theorem Inv.write{t':Nat}(I:Inv X pins σ H s)(mu:Z0 (H x))(he:e=x\/H e=some (.own x))(k:∀b u,b≠e->s.heap.get? b=some u->h'.get? b=some u)(Xt:∃u,h'.get? e=some u)
  (new:dO X.prog X.w (upd H x o) h' x o):Inv X pins σ (upd H x o) {s with heap:=h',toks:=t'}:=I.un (Un.write mu he k Xt) (I.cM.write mu he k Xt new)
theorem Inv.weak{σ':List (Option V)}(I:Inv X pins σ H s)(hl:σ'.length=σ.length)(w:∀(i:Nat) v,σ'[i]? =some (some v)->σ[i]? =some (some v)):Inv X pins σ' H s:=
 ⟨I.ok,I.os,I.bare,I.base,let ⟨m,hn,hl'⟩:=I.loc;⟨m,hn,λi x v e1 e2 e3=>hl' i x v e1 (w i v e2) e3⟩,I.cell,I.free,I.jv,I.pin,I.cM,hl.trans I.len⟩
theorem Inv.L_(I:Inv X pins σ H s)(h:∀p∈Yu,s.heap.get? p.1=some p.2/\H p.1=none/\p.1≠X.env.locals/\p.1 ∉ X.fs/\∀v,p.2.data≠ .cell v):Inv X Yu σ H s:=
 ⟨I.ok,I.os,I.bare,I.base,I.loc,I.cell,I.free,I.jv,λp hp=>(List.mem_append.mp hp).elim (λz=>I.pin p (List.mem_append_left _ z)) (h p),I.cM,I.len⟩
theorem uH{N:List Str}(hN:N.Nodup){i j:Nat}{x:Str}(a:N[i]? =some x)(b:N[j]? =some x):i=j:=by
 obtain⟨h1,e1⟩:=List.getElem?_eq_some_iff.mp a;obtain⟨h2,e2⟩:=List.getElem?_eq_some_iff.mp b;exact(List.getElem_inj hN).mp (e1.trans e2.symm)
theorem Dy{E:Value->Shared->Prop}{Q:Unit->Shared->Prop}(I:Inv X pins σ H s)(hN:X.N.Nodup)(hi:X.N[i]? =some x)(hx:Loc X.env.scope x)(r:RelV v u)
  (h:∀s',Inv X pins (σ.set i (some v)) H s'->(∃a,Heap.SameBut a s.heap s'.heap/\(a=X.env.locals\/X.env.cells.lookup x=some a))->Q () s') (hf:X.fn x=true\/X.env.scope.names.lookup x=some .local:=by first|exact .inl rfl|exact .inr rfl|assumption):wpAny M A (storeName X.env x u) Q E s:=by
 obtain⟨m,hn,hl⟩:=id I.loc;have WD:(X.env.scope.kind== .class||(X.env.scope.kind== .module&&X.env.locals != X.env.globals))=false:=by rw[I.ok.kind];rfl
 have hiσ:i<σ.length:=by rw[I.len];exact(List.getElem?_eq_some_iff.mp hi).1
 have Uv:=I.Uv;have tracked:∀{a:Addr} {h':Heap},(∃o,s.heap.get? a=some o/\H a=none)->Heap.SameBut a s.heap h'->mm X.prog X.w H h':=λ{a h'} ha hs b ob e=>by
  obtain⟨_,_,D9⟩:=ha;refine(I.cM b ob e).ED (λc w' hc q=>(hs.2 c ?_).trans q) (λ_ q=>q) λ_ _ q=>q
  rintro rfl
  rcases hc with rfl|hc
  ·rw[D9]at e;cases e
  ·rw[D9]at hc;cases hc
 rcases hx with hk|hk
 ·refine wpAny_storeName_local hk hn (λh' Xp hs=>?_) WD;obtain⟨oL,_,_,hoL,_⟩:=id hn;refine h _ ⟨I.ok,I.os,I.bare,⟨λb o e n hb hx=>?_,λb o e n hb hx=>?_,I.base.free,λb o e hx=>?_,I.base.xS,I.base.wF,I.base.xT⟩,⟨_,Xp,λj y v' e1 e2 e3=>?_⟩,λy c e=>?_,I.free,I.jv,λp hp=>?_,tracked ⟨oL,hoL,I.free⟩ hs,by simpa using I.len⟩ ⟨_,hs,.inl rfl⟩
  ·exact(hs.2 b (Nat.ne_of_lt (dh (Heap.lt_size e) I.ok.above))).trans (I.base.keep b o e n hb hx)
  ·obtain⟨sl,e1⟩:=I.base.slot b o e n hb hx;exact⟨sl,(hs.2 b (Nat.ne_of_lt (dh (Heap.lt_size e) I.ok.above))).trans e1⟩
  ·obtain⟨o',e1⟩:=I.base.there b o e hx;exact⟨o',(hs.2 b (Nat.ne_of_lt (dh (Heap.lt_size e) I.ok.above))).trans e1⟩
  ·by_cases hj:j=i
   ·subst hj;rw[hi]at e1;cases e1;rw[gr hiσ]at e2;cases e2;exact⟨u,r,.inl ⟨hk,by simp⟩⟩
   ·rw[List.getElem?_set_ne (Ne.symm hj)]at e2;obtain⟨u',r',q⟩:=hl j y v' e1 e2 e3;refine⟨u',r',?_⟩;rcases q with⟨k,e⟩|⟨k,c,e,z⟩
    ·refine .inl ⟨k,?_⟩;have:y≠x:=λe=>hj (uH hN e1 (e▸hi))
     simp[this,e]
    ·exact .inr ⟨k,c,e,z.sameBut hs (Uv y c e)⟩
  ·obtain⟨w',z⟩:=I.cell y c e;exact⟨w',z.sameBut hs (Uv y c e)⟩
  ·obtain⟨e,n,ne,nf,d⟩:=I.pin p hp;exact⟨(hs.2 p.1 ne).trans e,n,ne,nf,d⟩
 ·have hfn:X.fn x=true:=by
   rcases hf with z|z
   ·exact z
   ·rw[z]at hk;cases hk
  obtain⟨c,hc⟩:=I.ok.has x (.inl hk);obtain⟨w',z⟩:=I.cell x c hc;refine wpAny_storeName_cell I.ok.kind hk hc z (λh' xG hs=>?_);obtain⟨oc,hoc,abR⟩:=id z;refine h {s with heap:=h'} ⟨I.ok,I.os,I.bare,⟨λb o e n hb hx=>?_,λb o e n hb hx=>?_,I.base.free,λb o e hx=>?_,I.base.xS,I.base.wF,I.base.xT⟩,⟨m,hn.sameBut hs (Ne.symm (Uv x c hc)),λj y v' e1 e2 e3=>?_⟩,λy c' e=>?_,I.free,I.jv,λp hp=>?_,tracked ⟨oc,hoc,I.jv x c hc⟩ hs,by simpa using I.len⟩ ⟨c,hs,.inr hc⟩
  ·exact(hs.2 b (Nat.ne_of_lt (dh (Heap.lt_size e) (I.ok.W6 x c hfn hc)))).trans (I.base.keep b o e n hb hx)
  ·obtain⟨sl,e1⟩:=I.base.slot b o e n hb hx;exact⟨sl,(hs.2 b (Nat.ne_of_lt (dh (Heap.lt_size e) (I.ok.W6 x c hfn hc)))).trans e1⟩
  ·obtain⟨o',e1⟩:=I.base.there b o e hx;exact⟨o',(hs.2 b (Nat.ne_of_lt (dh (Heap.lt_size e) (I.ok.W6 x c hfn hc)))).trans e1⟩
  ·by_cases hj:j=i
   ·subst hj;rw[hi]at e1;cases e1;rw[gr hiσ]at e2;cases e2;exact⟨u,r,.inr ⟨.inl hk,c,hc,xG⟩⟩
   ·rw[List.getElem?_set_ne (Ne.symm hj)]at e2;obtain⟨u',r',q⟩:=hl j y v' e1 e2 e3;refine⟨u',r',?_⟩;rcases q with q|⟨k,c',e,z'⟩
    ·exact .inl q
    ·refine .inr ⟨k,c',e,z'.sameBut hs ?_⟩
     rintro rfl
     exact hj (uH hN e1 (I.ok.inj _ _ _ e hc▸hi))
  ·by_cases hcc:c'=c
   ·subst hcc;exact⟨_,xG⟩
   ·obtain⟨w2,z2⟩:=I.cell y c' e;exact⟨w2,z2.sameBut hs hcc⟩
  ·obtain⟨e,n,ne,nf,d⟩:=I.pin p hp;refine⟨(hs.2 p.1 ?_).trans e,n,ne,nf,d⟩;intro q;rw[q,hoc]at e;have q':oc=p.2:=aO e;exact d w' (by rw[<-q'];exact abR)
theorem tO{E:Value->Shared->Prop}{Q:Unit->Shared->Prop}(I:Inv X pins σ H s)(hN:X.N.Nodup)(hi:X.N[i]? =some x)(hx:Loc X.env.scope x)(r:RelV v u)
  (h:∀s',Inv X pins (σ.set i (some v)) H s'->Q () s') (hf:X.fn x=true\/X.env.scope.names.lookup x=some .local:=by first|exact .inl rfl|exact .inr rfl|assumption):wpAny M A (storeName X.env x u) Q E s:=
 Dy I hN hi hx r (λs' I' _=>h s' I') hf
theorem Inv.Ve{s':Shared}(I:Inv X pins σ H s)(ho:s'.os=s.os)(u:Un (oN X.stack) ch H H' s.heap s'.heap)(cM:mm X.prog X.w H' s'.heap)(hg:AllBare s'.gens)
  (SA:∀b∈ch,(b∈X.ex\/X.BS.heap.objs.size<=b)/\b≠X.env.locals/\(∀x c,X.env.cells.lookup x=some c->c≠b)/\∀p∈X.pn++pins,p.1≠b):Inv X pins σ H' s':=by
 obtain⟨h',g',d',t',o'⟩:=s';have e:o'=s.os:=ho;subst e;exact I.call (g':=g') (t':=t') (d':=d') u cM hg SA
end
abbrev XK:=Value->Option Addr->Hp->Prop
abbrev St:=List (Option V)
abbrev VK:=V->Hp->Prop
abbrev TE:=St->Hp->VK->Prop
abbrev TT:=St->Hp->(Bool->Hp->Prop)->Prop
abbrev TA:=St->Hp->(List V->Hp->Prop)->Prop
structure Ends where
 nx:St->Hp->Prop
 rt:VK
 bk:St->Hp->Prop:=λ_ _=>False
 ct:St->Hp->Prop:=λ_ _=>False
abbrev TS:=Ends->St->Hp->Prop
inductive EP(X:Cx)(pins:List (Addr×Obj))(σ:St)(Q:VK)(u:Value)(s:Shared):Prop
 |mk (v:V) (H:Hp) (i:Inv X pins σ H s) (r:RelV v u) (q:Q v H):EP X pins σ Q u s
inductive TP(X:Cx)(pins:List (Addr×Obj))(σ:St)(Q:Bool->Hp->Prop)(b:Bool)(s:Shared):Prop
 |mk (H:Hp) (i:Inv X pins σ H s) (q:Q b H):TP X pins σ Q b s
inductive AP(X:Cx)(pins:List (Addr×Obj))(σ:St)(Q:List V->Hp->Prop)(us:List Value)(s:Shared):Prop
 |mk (vs:List V) (H:Hp) (i:Inv X pins σ H s) (r:Vals vs us) (q:Q vs H):AP X pins σ Q us s
def SP(X:Cx)(pins:List (Addr×Obj))(D:Ends)(f:Flow)(s':Shared):Prop:=
 match f with
 | .next=>∃σ' H',Inv X pins σ' H' s'/\D.nx σ' H'
 | .brk=>∃σ' H',Inv X pins σ' H' s'/\D.bk σ' H'
 | .cont=>∃σ' H',Inv X pins σ' H' s'/\D.ct σ' H'
 | .ret u=>∃v σ' H',Inv X pins σ' H' s'/\RelV v u/\D.rt v H'
def PE(X:Cx)(e:Expr)(t:TE):Prop:=
 ∀(pins:List (Addr×Obj)) (s:Shared) (σ:St) (H:Hp) (Q:VK),Inv X pins σ H s->t σ H Q->wpAny (model X.prog X.w) X.A (eval e X.env) (EP X pins σ Q) X.xe s
def PT(X:Cx)(e:Expr)(t:TT):Prop:=
 ∀(pins:List (Addr×Obj)) (s:Shared) (σ:St) (H:Hp) (Q:Bool->Hp->Prop),Inv X pins σ H s->t σ H Q->wpAny (model X.prog X.w) X.A (isTrue e X.env (eval e X.env)) (TP X pins σ Q) X.xe s
def PW(X:Cx)(e:Expr)(t:TT):Prop:=
 ∀(whole:Sem Value) (pins:List (Addr×Obj)) (s:Shared) (σ:St) (H:Hp) (Q:Bool->Hp->Prop),Inv X pins σ H s->t σ H Q->wpAny (model X.prog X.w) X.A (isTrue e X.env whole) (TP X pins σ Q) X.xe s
theorem PW.pt(h:PW X e t):PT X e t:=h _
def PA(X:Cx)(es:List Expr)(t:TA):Prop:=
 ∀(pos:Pos) (pins:List (Addr×Obj)) (s:Shared) (σ:St) (H:Hp) (Q:List V->Hp->Prop),Inv X pins σ H s->t σ H Q->wpAny (model X.prog X.w) X.A (spliced (backTo pos (starEach es X.env))) (AP X pins σ Q) X.xe s
def PS(X:Cx)(st:Stmt)(t:TS):Prop:=
 ∀(pins:List (Addr×Obj)) (s:Shared) (σ:St) (H:Hp) (D:Ends),Inv X pins σ H s->t D σ H->wpAny (model X.prog X.w) X.A (exec st X.env) (SP X pins D) X.xe s
def JH(X:Cx)(st:List Stmt)(t:TS):Prop:=
 ∀(pins:List (Addr×Obj)) (s:Shared) (σ:St) (H:Hp) (D:Ends),Inv X pins σ H s->t D σ H->wpAny (model X.prog X.w) X.A (execs st X.env) (SP X pins D) X.xe s
theorem c_{α:Type}{t:Sem α}{Q Q':α->Shared->Prop}{E:Value->Shared->Prop}(h:wpAny M A t Q E s)(hQ:∀a s,Q a s->Q' a s):wpAny M A t Q' E s:=wpAny_mono h hQ λ_ _ x=>x
end L2
namespace L2
open PySem PySem.Spec PyProof.Rows
section
variable {X:Cx}
theorem bin(ha:PE X a ta)(hb:PE X b tb){R:V->V->Hp->Prop}(I:Inv X pins σ H s)(h:ta σ H λx H1=>tb σ H1 λy H2=>R x y H2)
  {α:Type} {Q:α->Shared->Prop} {f:Value->Value->Sem α}
  (hf:∀v u s2 x y H2,Inv X pins σ H2 s2->RelV x v->RelV y u->R x y H2->wpAny (model X.prog X.w) X.A (f v u) Q X.xe s2):
  wpAny (model X.prog X.w) X.A (eval a X.env) (λv s₁=>wpAny (model X.prog X.w) X.A (eval b X.env) (λu s₂=>wpAny (model X.prog X.w) X.A (f v u) Q X.xe s₂) X.xe s₁) X.xe s:=by
 refine c_ (ha pins s σ H _ I h) λv s1 ⟨x,H1,I1,r1,q1⟩=>?_
 refine c_ (hb pins s1 σ H1 _ I1 q1) λu s2 ⟨y,H2,I2,r2,q2⟩=>?_
 exact hf v u s2 x y H2 I2 r1 r2 q2
inductive dJ(i:Nat)(σ:St)(H:Hp)(Q:VK):Prop
 |mk (v:V) (e:σ[i]? =some (some v)) (q:Q v H):dJ i σ H Q
def tC(v:V):TE:=λ_ H Q=>Q v H
theorem VP(hN:X.N[i]? =some x)(hv:XH X.env.scope x)(hd:(x==("__debug__":Str))=false:=by decide)(yN:(x==("__classdict__":Str))=false:=by decide):PE X (.Name x pos) (dJ i):=by
 intro pins s σ H Q I h;obtain⟨v,e,h⟩:=h;obtain⟨m,hn,hl⟩:=I.loc;obtain⟨u,r,l⟩:=hl i x v hN e hv;have fin:EP X pins σ Q u s:=⟨v,H,I,r,h⟩;rcases l with⟨hk,hm⟩|⟨hk,c,hc,Mp⟩
 ·exact wpAny_Name (wpAny_loadName_local I.ok.kind hk hn hm fin) hd
 ·rcases hk with hk|hk
  ·exact wpAny_Name (wpAny_loadName_cell I.ok.kind hk hc Mp fin) hd
  ·exact wpAny_Name (wpAny_loadName_free I.ok.kind hk hc Mp fin yN) hd
theorem ay{i j pos}:PE X (.Constant (.int i) j pos) (tC (.int i)):=λ_ _ _ H _ I h=>wpAny_Constant_int ⟨.int i,H,I.tok _,⟨_,rfl⟩,h⟩
theorem xA{b j pos}:PE X (.Constant (.bool b) j pos) (tC (.bl b)):=λ_ _ _ H _ I h=>Constant_bool ⟨.bl b,H,I,rfl,h⟩
theorem gG{j pos}:PE X (.Constant .none j pos) (tC .dt):=λ_ _ _ H _ I h=>Constant_none ⟨.dt,H,I,rfl,h⟩
theorem fj{x j pos}:PE X (.Constant (.str x) j pos) (tC (.str x)):=λ_ _ _ H _ I h=>Calls.Constant_str ⟨.str x,H,I.tok _,⟨_,rfl⟩,h⟩
def Gl(X:Cx)(x:Str):Prop:=X.env.kindOf x=some .globalImplicit
theorem nQ{E:Value->Shared->Prop}{Q:Value->Shared->Prop}(I:Inv X pins σ H s)(hg:Gl X x)(hm:X.mg x=some u)(h:Q u s)
  (hd:(x==("__debug__":Str))=false:=by decide):wpAny (model X.prog X.w) X.A (eval (.Name x pos) X.env) Q E s:=
 Calls.Name_function_global I.ok.kind hg (Calls.loadGlobal_global (by rw[I.ok.glob];exact I.mod.glob.keeps I.bk) hm h) hd
theorem nU{E:Value->Shared->Prop}{Q:Value->Shared->Prop}(I:Inv X pins σ H s)(hg:Gl X x)(hm:X.mg x=none)(hv:bootBuiltins x=some u)(h:Q u s)
  (hn:x≠"__name__":=by decide) (hd:(x==("__debug__":Str))=false:=by decide):wpAny (model X.prog X.w) X.A (eval (.Name x pos) X.env) Q E s:=by
 obtain⟨mb,h1,h2⟩:=I.mod.blt;exact Calls.Name_function_global I.ok.kind hg (Calls.loadGlobal_builtin (by rw[I.ok.glob];exact I.mod.glob.keeps I.bk) hm (by rw[I.ok.blt];exact h1.keeps I.bk) ((h2 x hn).trans hv) h) hd
theorem Fb(hg:Gl X x)(hm:X.mg x=some u)(r:RelV v u)(hd:(x==("__debug__":Str))=false:=by decide):PE X (.Name x pos) (tC v):=
 λ_ _ _ H _ I h=>nQ I hg hm ⟨v,H,I,r,h⟩ hd
variable {a b:Expr} {ta tb:TE} {pos:Pos}
def PC(X:Cx)(op:CmpOp)(a b:Expr)(t:TE):Prop:=
 ∀(pins:List (Addr×Obj)) (s:Shared) (σ:St) (H:Hp) (Q:VK),Inv X pins σ H s->t σ H Q->
  wpAny (model X.prog X.w) X.A (eval a X.env) (λv s₁=>wpAny (model X.prog X.w) X.A (eval b X.env) (λu s₂=>wpAny (model X.prog X.w) X.A (compareOp op v u) (EP X pins σ Q) X.xe s₂) X.xe s₁) X.xe s
theorem Il(b:Expr)(h:op≠ .In)(h2:op≠ .NotIn):behindInMarks op b=false:=by
 have e1:(op==CmpOp.In)=false:=by cases op<;>first|rfl|exact absurd rfl h
 have e2:(op==CmpOp.NotIn)=false:=by cases op<;>first|rfl|exact absurd rfl h2
 cases b<;>simp[behindInMarks,e1,e2]
def abi(ta:TE):TE:=λσ H Q=>ta σ H λx H1=>Q (.bl (decide (x= .dt))) H1
def XO(ta:TE):TE:=λσ H Q=>ta σ H λx H1=>Q (.bl (!decide (x= .dt))) H1
theorem RelV.Ik(r:RelV x v):(v==Value.none)=decide (x= .dt):=by
 cases x with
 |dt=>cases r;rfl
 |bl _=>cases r;rfl
 |int _=>obtain⟨t,rfl⟩:=r;rfl
 |str _=>obtain⟨t,rfl⟩:=r;rfl
 |GC _=>obtain⟨t,rfl⟩:=r;rfl
 |RI _=>obtain⟨t,rfl⟩:=r;rfl
 |ref _=>cases r;rfl
 |ty _=>cases r;rfl
theorem vR{j pos'}(ha:PE X a ta):PC X .Is a (.Constant .none j pos') (abi ta):=by
 intro pins s σ H Q I h;refine c_ (ha pins s σ H _ I h) λv s1 ⟨x,H1,I1,r1,q1⟩=>?_
 exact Constant_none (is_none_gen ⟨.bl _,H1,I1,by rw[r1.Ik];rfl,q1⟩)
theorem qE{j pos'}(ha:PE X a ta):PC X .IsNot a (.Constant .none j pos') (XO ta):=by
 intro pins s σ H Q I h;refine c_ (ha pins s σ H _ I h) λv s1 ⟨x,H1,I1,r1,q1⟩=>?_
 exact Constant_none (isnot_none_gen ⟨.bl _,H1,I1,by rw[r1.Ik];rfl,q1⟩)
inductive Z5(Q:Bool->Hp->Prop)(x:V)(H:Hp):Prop
 |mk (c:Bool) (e:x= .bl c) (q:Q c H):Z5 Q x H
def tB(t:TE):TT:=λσ H Q=>t σ H (Z5 Q)
theorem J9(h:PC X op a b t)(h1:behindInMarks op b=false:=by first|exact Il _ (by decide) (by decide)|rfl):PE X (.Compare a [op] [b] pos) t:=λpins s σ H Q I hw=>wpAny_Compare1 (h pins s σ H Q I hw) h1
theorem jm(h:PC X op a b t)(h1:behindInMarks op b=false:=by first|exact Il _ (by decide) (by decide)|rfl):PT X (.Compare a [op] [b] pos) (tB t):=by
 intro pins s σ H Q I hw;refine wpAny_isTrue_Compare1 (c_ (h pins s σ H _ I hw) λv s1 h1=>c_ h1 λu s2 h2=>c_ h2 λc s3 ⟨x,H1,I1,r1,q1⟩=>?_) h1;obtain⟨d,rfl,q⟩:=q1;cases r1;exact wpAny_truthy_bool ⟨H1,I1,q⟩
theorem dc(h:PE X e t)(he:∀whole,isTrue e X.env whole=(do let v<-whole;standAt e.pos;holding [v] (truthy v)):=by intro _;rfl):PT X e (tB t):=by
 intro pins s σ H Q I hw;refine isTrue_plain (c_ (h pins s σ H _ I hw) λv s1 ⟨x,H1,I1,r1,q1⟩=>?_) (he _);obtain⟨d,rfl,q⟩:=q1;cases r1;exact wpAny_truthy_bool ⟨H1,I1,q⟩
variable {tA tB':TT} {rest:List Expr}
def XZ(t u:TT):TT:=λσ H Q=>t σ H λc H1=>if c=true then u σ H1 Q else Q false H1
def tOr(t u:TT):TT:=λσ H Q=>t σ H λc H1=>if c=true then Q true H1 else u σ H1 Q
def XQ(t:TT):TT:=λσ H Q=>t σ H λc H1=>Q (!c) H1
theorem L4(ha:PT X a tA):PW X (.BoolOp .And [a] pos) tA:=by
 intro wh pins s σ H Q I h;refine isTrue_and (c_ (ha pins s σ H Q I h) λc s1 e=>?_);cases c with
 |true=>exact isTrue_and_nil e
 |false=>exact e
theorem lF(ha:PT X a tA):PW X (.BoolOp .Or [a] pos) tA:=by
 intro wh pins s σ H Q I h;refine isTrue_or (c_ (ha pins s σ H Q I h) λc s1 e=>?_);cases c with
 |false=>exact isTrue_or_nil e
 |true=>exact e
theorem Qs(ha:PT X a tA)(hb:PW X (.BoolOp .And (b::rest) pos) tB'):PW X (.BoolOp .And (a::b::rest) pos) (XZ tA tB'):=by
 intro wh pins s σ H Q I h;refine isTrue_and (c_ (ha pins s σ H _ I h) λc s1 ⟨H1,I1,q1⟩=>?_);cases c with
 |true=>exact hb wh pins s1 σ H1 Q I1 q1
 |false=>exact⟨H1,I1,q1⟩
theorem jb(ha:PT X a tA)(hb:PW X (.BoolOp .Or (b::rest) pos) tB'):PW X (.BoolOp .Or (a::b::rest) pos) (tOr tA tB'):=by
 intro wh pins s σ H Q I h;refine isTrue_or (c_ (ha pins s σ H _ I h) λc s1 ⟨H1,I1,q1⟩=>?_);cases c with
 |true=>exact⟨H1,I1,q1⟩
 |false=>exact hb wh pins s1 σ H1 Q I1 q1
theorem du(ha:PT X a tA):PT X (.UnaryOp .Not a pos) (XQ tA):=by
 intro pins s σ H Q I h;exact isTrue_not (c_ (ha pins s σ H (λc H1=>Q (!c) H1) I h) λ_ _ ⟨_,i,q⟩=>⟨_,i,q⟩)
def XY(ta tb:TE):TE:=λσ H Q=>ta σ H λx H1=>∃c,x= .bl c/\if c=true then tb σ H1 Q else Q (.bl false) H1
def abg(ta tb:TE):TE:=λσ H Q=>ta σ H λx H1=>∃c,x= .bl c/\if c=true then Q (.bl true) H1 else tb σ H1 Q
theorem zY{op}(h:PE X a t):PE X (.BoolOp op [a] pos) t:=λpins s σ H Q I hw=>BoolOp_one (h pins s σ H Q I hw)
theorem Fc(ha:PE X a ta)(hb:PE X (.BoolOp .And (b::rest) pos) tb):PE X (.BoolOp .And (a::b::rest) pos) (XY ta tb):=by
 intro pins s σ H Q I h;refine BoolOp_and (c_ (ha pins s σ H _ I h) λv s1 ⟨x,H1,I1,r1,q1⟩=>?_);obtain⟨c,rfl,q1⟩:=q1;cases r1;refine wpAny_truthy_bool ?_;cases c with
 |true=>exact hb pins s1 σ H1 Q I1 q1
 |false=>exact⟨.bl false,H1,I1,rfl,q1⟩
theorem Yw(ha:PE X a ta)(hb:PE X (.BoolOp .Or (b::rest) pos) tb):PE X (.BoolOp .Or (a::b::rest) pos) (abg ta tb):=by
 intro pins s σ H Q I h;refine BoolOp_or (c_ (ha pins s σ H _ I h) λv s1 ⟨x,H1,I1,r1,q1⟩=>?_);obtain⟨c,rfl,q1⟩:=q1;cases r1;refine wpAny_truthy_bool ?_;cases c with
 |false=>exact hb pins s1 σ H1 Q I1 q1
 |true=>exact⟨.bl true,H1,I1,rfl,q1⟩
def tIf(t:TT)(ta tb:TE):TE:=λσ H Q=>t σ H λc H1=>if c=true then ta σ H1 Q else tb σ H1 Q
theorem dA(hc:PT X c tA)(ha:PE X a ta)(hb:PE X b tb):PE X (.IfExp c a b pos) (tIf tA ta tb):=by
 intro pins s σ H Q I h;refine wpAny_IfExp (c_ (hc pins s σ H _ I h) λd s1 ⟨H1,I1,q1⟩=>?_);cases d with
 |true=>exact ha pins s1 σ H1 Q I1 q1
 |false=>exact hb pins s1 σ H1 Q I1 q1
end
end L2
namespace L2
open PySem PySem.Spec PyProof.Rows
def bp(K:PySem.W.Frag)(H:Hp)(a:Addr)(xs:List V):Prop:=
 Rd H a (.lst xs)\/
  ∃(o:Obj) (its:Array Value) (n:Nat),K.lookup a=some o/\o.cls= .type "list"/\o.dict=none/\o.data= .seq its n/\its.size<=sizeLine/\Vals xs its.toList
def rB(K:PySem.W.Frag)(H:Hp)(a:Addr)(xs:List V):Prop:=
 Rd H a (.tup xs)\/
  ∃(o:Obj) (its:Array Value) (n:Nat),K.lookup a=some o/\o.cls= .type "tuple"/\o.data= .seq its n/\its.size<=sizeLine/\Vals xs its.toList
def acm:Value->Option V
 | .none=>some .dt
 | .bool b=>some (.bl b)
 | .int i _=>some (.int i)
 | .str x _=>some (.str x)
 | .bytes b _=>some (.GC b)
 | .float b _=>some (.RI b)
 | .ref a=>some (.ref a)
 | .type n=>some (.ty n)
 |_=>none
theorem RelV.abs(r:RelV x u):acm u=some x:=by
 cases x with
 |dt=>cases r;rfl
 |bl _=>cases r;rfl
 |int _=>obtain⟨t,rfl⟩:=r;rfl
 |str _=>obtain⟨t,rfl⟩:=r;rfl
 |GC _=>obtain⟨t,rfl⟩:=r;rfl
 |RI _=>obtain⟨t,rfl⟩:=r;rfl
 |ref _=>cases r;rfl
 |ty _=>cases r;rfl
theorem RelV.inj(r:RelV x u)(q:RelV y u):x=y:=aO (r.abs.symm.trans q.abs)
theorem Vals.inj:∀{xs ys:List V} {us:List Value},Vals xs us->Vals ys us->xs=ys
 |_,_,_,.nil,.nil=>rfl
 |_,_,_,.cons r t,.cons r' t'=>by rw[r.inj r',Vals.inj t t']
section
variable {X:Cx} {pins:List (Addr×Obj)} {σ:St} {H:Hp} {s:Shared} {a:Addr} {xs ys:List V}
theorem bp.of{K:PySem.W.Frag}(h:H a=some (.lst xs)):bp K H a xs:=.inl (.inl h)
theorem rB.of{K:PySem.W.Frag}(h:H a=some (.tup xs)):rB K H a xs:=.inl (.inl h)
theorem Inv.list(I:Inv X pins σ H s)(h:bp X.K H a xs):∃its:List Value,Vals xs its/\PlainL s.heap a its.toArray/\xs.length<=sizeLine:=by
 rcases h with h|⟨o,its,n,hk,hc,hd,hs,hz,r⟩
 ·obtain⟨z,its,n,r,e⟩:=h.ok I.cM;exact⟨its,r,⟨_,n,e,rfl,rfl,rfl⟩,z⟩
 ·refine⟨its.toList,r,⟨o,n,I.yM a o hk,hc,hd,by simpa using hs⟩,?_⟩;have e:=r.length;simp only [Array.length_toList]at e;omega
theorem Inv.tuple(I:Inv X pins σ H s)(h:rB X.K H a xs):∃its:List Value,Vals xs its/\IsTup s.heap a its.toArray/\xs.length<=sizeLine:=by
 rcases h with h|⟨o,its,n,hk,hc,hs,hz,r⟩
 ·obtain⟨z,its,r,p⟩:=h.ok I.cM;exact⟨its,r,p,z⟩
 ·refine⟨its.toList,r,⟨o,I.yM a o hk,hc,n,by simpa using hs⟩,?_⟩;have e:=r.length;simp only [Array.length_toList]at e;omega
theorem Inv.Iy(I:Inv X pins σ H s)(h:bp X.K H a xs)(h':bp X.K H a ys):xs=ys:=by
 obtain⟨its,r,⟨o,n,e,_,_,d⟩,_⟩:=I.list h;obtain⟨its',r',⟨o',n',e',_,_,d'⟩,_⟩:=I.list h';rw[e]at e';cases e';rw[d]at d';injection d' with d1 _
 have:its=its':=by simpa using congrArg Array.toList d1
 subst this;exact r.inj r'
end
abbrev Cx.BD(X:Cx)(E:Value->Shared->Prop):Cx:={X with xe:=E}
abbrev Cx.Mf(X:Cx):Cx:=X.BD λ_ _=>False
theorem Cx.Ok.BD{X:Cx}(ok:X.Ok)(E:Value->Shared->Prop):(X.BD E).Ok:=
 ⟨ok.mod,ok.kind,ok.glob,ok.blt,ok.above,ok.inj,ok.has,ok.W6,ok.hd,ok.frames,ok.om,ok.XE,ok.bs,ok.R8,ok.Kp,ok.K3,ok.oM,ok.Uh⟩
theorem Cx.Ok.oU{X:Cx}{E:Value->Shared->Prop}(ok:(X.BD E).Ok):X.Ok:=
 ⟨ok.mod,ok.kind,ok.glob,ok.blt,ok.above,ok.inj,ok.has,ok.W6,ok.hd,ok.frames,ok.om,ok.XE,ok.bs,ok.R8,ok.Kp,ok.K3,ok.oM,ok.Uh⟩
section
variable {X:Cx} {pins:List (Addr×Obj)} {σ:St} {H:Hp} {s:Shared} {E:Value->Shared->Prop}
theorem Inv.BD(I:Inv X pins σ H s)(E:Value->Shared->Prop):Inv (X.BD E) pins σ H s:=⟨I.ok.BD E,I.os,I.bare,I.base,I.loc,I.cell,I.free,I.jv,I.pin,I.cM,I.len⟩
theorem Inv.oU(I:Inv (X.BD E) pins σ H s):Inv X pins σ H s:=⟨I.ok.oU,I.os,I.bare,I.base,I.loc,I.cell,I.free,I.jv,I.pin,I.cM,I.len⟩
theorem SP.oU(h:SP (X.BD E) pins D f s'):SP X pins D f s':=by
 cases f with
 |next=>obtain⟨σ',H',I,q⟩:=h;exact⟨σ',H',I.oU,q⟩
 |brk=>obtain⟨σ',H',I,q⟩:=h;exact⟨σ',H',I.oU,q⟩
 |cont=>obtain⟨σ',H',I,q⟩:=h;exact⟨σ',H',I.oU,q⟩
 |ret u=>obtain⟨v,σ',H',I,r,q⟩:=h;exact⟨v,σ',H',I.oU,r,q⟩
theorem JH.Mf{st:List Stmt}(h:JH X.Mf st t):JH X st t:=λpins s σ H D I hw=>
 wpAny_mono (h pins s σ H D (I.BD _) hw) (λ_ _ q=>q.oU) λ_ _ z=>False.elim z
end
section
variable {X:Cx} {st:Stmt} {rest:List Stmt} {t u:TS} {e:Expr} {te:TE} {pos:Pos}
def P1:TS:=λD σ H=>D.nx σ H
def P0(t u:TS):TS:=λD σ H=>t {D with nx:=u D} σ H
theorem aJ:JH X [] P1:=λ_ _ σ H _ I h=>wpAny_execs_nil ⟨σ,H,I,h⟩
theorem ae(h1:PS X st t)(h2:JH X rest u):JH X (st::rest) (P0 t u):=by
 intro pins s σ H D I h;refine wpAny_execs_cons (c_ (h1 pins s σ H {D with nx:=u D} I h) λf s1 q=>?_);cases f with
 |next=>
  obtain⟨σ',H',I',q⟩:=q;exact h2 pins s1 σ' H' D I' q
 |ret v=>exact q
 |brk=>exact q
 |cont=>exact q
theorem ag(h1:PS X st t):JH X [st] t:=by
 intro pins s σ H D I h;refine wpAny_execs_cons (c_ (h1 pins s σ H D I h) λf s1 q=>?_);cases f with
 |next=>exact wpAny_execs_nil q
 |ret v=>exact q
 |brk=>exact q
 |cont=>exact q
theorem Inv.quiet(I:Inv X pins σ H s):interactive X.env=false:=by simp[interactive,I.ok.kind]
def P4(te:TE):TS:=λD σ H=>te σ H λ_ H1=>D.nx σ H1
theorem aU(he:PE X e te)(hs:swapsWith e none pos.line X.env=pure false:=by rfl):PS X (.Expr e pos) (P4 te):=by
 intro pins s σ H D I h;exact wpAny_Expr_any (c_ (he pins s σ H _ I h) λv s1 ⟨x,H1,I1,r1,q1⟩=>⟨σ,H1,I1,q1⟩) I.quiet hs
def vy(te:TE):TS:=λD σ H=>te σ H D.rt
theorem aq(he:PE X e te):PS X (.Return (some e) pos) (vy te):=by
 intro pins s σ H D I h;exact wpAny_Return_some (c_ (he pins s σ H _ I h) λv s1 ⟨x,H1,I1,r1,q1⟩=>⟨x,σ,H1,I1,r1,q1⟩)
def Vs(c:TT)(t u:TS):TS:=λD σ H=>c σ H λb H1=>if b=true then t D σ H1 else u D σ H1
theorem a7(hc:PT X c tc)(ha:JH X a t)(hb:JH X b u):PS X (.If c a b pos) (Vs tc t u):=by
 intro pins s σ H D I h;refine wpAny_If (c_ (hc pins s σ H _ I h) λd s1 ⟨H1,I1,q1⟩=>?_);cases d with
 |true=>exact ha pins s1 σ H1 D I1 q1
 |false=>exact hb pins s1 σ H1 D I1 q1
end
abbrev TG:=V->St->Hp->(St->Hp->Prop)->Prop
abbrev TGs:=List V->St->Hp->(St->Hp->Prop)->Prop
def PG(X:Cx)(target:Expr)(t:TG):Prop:=
 ∀(pins:List (Addr×Obj)) (s:Shared) (σ:St) (H:Hp) (v:V) (u:Value) (Q:St->Hp->Prop),Inv X pins σ H s->RelV v u->t v σ H Q->
  wpAny (model X.prog X.w) X.A (assign target X.env u) (λ_ s'=>∃σ' H',Inv X pins σ' H' s'/\Q σ' H') X.xe s
def PGs(X:Cx)(ts:List Expr)(t:TGs):Prop:=
 ∀(pins:List (Addr×Obj)) (s:Shared) (σ:St) (H:Hp) (vs:List V) (us:List Value) (Q:St->Hp->Prop),Inv X pins σ H s->Vals vs us->t vs σ H Q->
  wpAny (model X.prog X.w) X.A (assignInOrder ((assignEach ts X.env).map (·.2)) us) (λ_ s'=>∃σ' H',Inv X pins σ' H' s'/\Q σ' H') X.xe s
abbrev ZV:=V->V->V->Hp->(Hp->Prop)->Prop
def ZY(X:Cx)(t:ZV):Prop:=
 ∀(pins:List (Addr×Obj)) (s:Shared) (σ:St) (H:Hp) (o i v:V) (ov iv u:Value) (Q:Hp->Prop),Inv X pins σ H s->RelV o ov->RelV i iv->RelV v u->t o i v H Q->
  wpAny (model X.prog X.w) X.A (setItem ov iv u) (λ_ s'=>∃H',Inv X pins σ H' s'/\Q H') X.xe s
abbrev TIp:=V->V->Hp->VK->Prop
def PIp(X:Cx)(op:Operator)(t:TIp):Prop:=
 ∀(pins:List (Addr×Obj)) (s:Shared) (σ:St) (H:Hp) (x y:V) (v u:Value) (Q:VK),Inv X pins σ H s->RelV x v->RelV y u->t x y H Q->
  wpAny (model X.prog X.w) X.A (inplaceOp op v u) (EP X pins σ Q) X.xe s
section
variable {X:Cx} {pos:Pos}
def AZ(i:Nat):TG:=λv σ H Q=>Q (σ.set i (some v)) H
theorem bR(hN:X.N.Nodup)(hi:X.N[i]? =some x)(hx:Loc X.env.scope x)(hf:X.fn x=true\/X.env.scope.names.lookup x=some .local:=by first|exact .inl rfl|exact .inr rfl|assumption):PG X (.Name x pos) (AZ i):=by
 intro pins s σ H v u Q I r h;exact wpAny_assign_Name (tO I hN hi hx r (λs' I'=>⟨_,H,I',h⟩) hf)
def acf:TGs:=λvs σ H Q=>vs=[]/\Q σ H
inductive U9(t:TG)(u:TGs)(vs:List V)(σ:St)(H:Hp)(Q:St->Hp->Prop):Prop
 |mk (v:V) (r:List V) (e:vs=v::r) (q:t v σ H λσ' H'=>u r σ' H' Q):U9 t u vs σ H Q
theorem Ma:PGs X [] acf:=by
 intro pins s σ H vs us Q I r h;obtain⟨e,h⟩:=h;subst e;cases r;exact assignInOrder_nil ⟨σ,H,I,h⟩
theorem uv(h1:PG X e t)(h2:PGs X es u)
  (hs:(assignEach (e::es) X.env).map (·.2)=assign e X.env::(assignEach es X.env).map (·.2):=by rfl):PGs X (e::es) (U9 t u):=by
 intro pins s σ H vs us Q I r h;obtain⟨v,vr,e1,h⟩:=h;subst e1;cases r with
 |cons r rr=>
  rw[hs];refine assignInOrder_cons (c_ (h1 pins s σ H _ _ _ I r h) λ_ s1 ⟨σ1,H1,I1,q1⟩=>?_);exact h2 pins s1 σ1 H1 _ _ Q I1 rr q1
inductive ZD(K:PySem.W.Frag)(n:Nat)(t:TGs)(v:V)(σ:St)(H:Hp)(Q:St->Hp->Prop):Prop
 |mk (a:Addr) (xs:List V) (e:v= .ref a) (f:rB K H a xs) (g:xs.length=n) (q:t xs σ H Q):ZD K n t v σ H Q
theorem QA(hc:X.calm=true)(h:PGs X es t)
  (hn:(assignEach es X.env).length=n:=by rfl) (sI:(assignEach es X.env).findIdx? (·.1)=none:=by rfl):PG X (.Tuple es k pos) (ZD X.K n t):=by
 intro pins s σ H v u Q I r hw;obtain⟨a,xs,e1,hq,hl,hw⟩:=hw;subst e1;cases r;obtain⟨its,rv,ht,hz⟩:=I.tuple hq;refine assign_Tuple_tuple (I.ok.hd hc) ht (by simp[hn,<-hl,rv.length]) sI λh' hx=>?_
 have I1:Inv X pins σ H {s with heap:=h'}:=I.kept (t':=s.toks) λb o e=>hx b o (Nat.ne_of_lt (Heap.lt_size e)) e
 exact h pins _ σ H xs _ Q I1 (by simpa using rv) hw
def ace(to ti:TE)(t:ZV):TG:=λv σ H Q=>to σ H λo H1=>ti σ H1 λi H2=>t o i v H2 λH3=>Q σ H3
theorem zX(ho:PE X o to)(hi:PE X i ti)(hs:ZY X t)
  (ha:∀v,assign (.Subscript o i pos) X.env v=(do
   let ov<-holding [v] (eval o X.env);let iv<-holding [v,ov] (eval i X.env)
   standAt pos
   holding [v,ov,iv] (setItem ov iv v)
   release [v,ov,iv] []):=by intro _;rfl):PG X (.Subscript o i pos) (ace to ti t):=by
 intro pins s σ H v u Q I r h;rw[ha];refine wpAny_bind (wpAny_holding (c_ (ho pins s σ H _ I h) λov s1 ⟨x,H1,I1,r1,q1⟩=>?_));refine wpAny_bind (wpAny_holding (c_ (hi pins s1 σ H1 _ I1 q1) λiv s2 ⟨y,H2,I2,r2,q2⟩=>?_));refine wpAny_bind (wpAny_standAt (wpAny_bind (wpAny_holding (c_ (hs pins s2 σ H2 x y v ov iv u _ I2 r1 r2 r q2) λ_ s3 ⟨H3,I3,q3⟩=>?_))));exact wpAny_release ⟨σ,H3,I3,q3⟩
def S1(te:TE)(g:TG):TS:=λD σ H=>te σ H λx H1=>g x σ H1 D.nx
theorem zU(he:PE X e te)(hg:PG X tg g)(hs:swapsWithSole [tg] e pos.line X.env=pure false:=by rfl)(hw:swappedStores [tg] e X.env=pure none:=by rfl)
  (h1:(assignEach [tg] X.env).map (·.2)=[assign tg X.env]:=by rfl):PS X (.Assign [tg] e pos) (S1 te g):=by
 intro pins s σ H D I h;refine wpAny_Assign_stores (c_ (he pins s σ H _ I h) λv s1 ⟨x,H1,I1,r1,q1⟩=>?_) hs hw;rw[h1];exact c_ (hg pins s1 σ H1 x v _ I1 r1 q1) λ_ s2 q=>q
theorem aB(hN:X.N.Nodup)(hi:X.N[i]? =some x)(hx:Loc X.env.scope x)(he:PE X e te)(hs:swapsWith e (some (.Name x pos')) pos.line X.env=pure false:=by rfl)(hf:X.fn x=true\/X.env.scope.names.lookup x=some .local:=by first|exact .inl rfl|exact .inr rfl|assumption):
  PS X (.Assign [.Name x pos'] e pos) (S1 te (AZ i)):=by
 intro pins s σ H D I h;refine wpAny_Assign_Name (c_ (he pins s σ H _ I h) λv s1 ⟨y,H1,I1,r1,q1⟩=>?_) hs;exact tO I1 hN hi hx r1 (λs2 I2=>⟨_,H1,I2,q1⟩) hf
inductive XW(i:Nat)(te:TE)(ti:TIp)(D:Ends)(σ:St)(H:Hp):Prop
 |mk (x:V) (e:σ[i]? =some (some x)) (q:te σ H λy H1=>ti x y H1 λz H2=>D.nx (σ.set i (some z)) H2):XW i te ti D σ H
theorem lG(hN:X.N.Nodup)(hi:X.N[i]? =some x)(hx:Loc X.env.scope x)(he:PE X e te)(ho:PIp X op ti)(hf:X.fn x=true\/X.env.scope.names.lookup x=some .local:=by first|exact .inl rfl|exact .inr rfl|assumption):
  PS X (.AugAssign (.Name x pos') op e pos) (XW i te ti):=by
 intro pins s σ H D I h;obtain⟨v,e1,h⟩:=h;obtain⟨m,hn,hl⟩:=I.loc;have vis:XH X.env.scope x:=by rcases hx with k|k;exact .inl k;exact .inr (.inl k)
 obtain⟨u,r,l⟩:=hl i x v hi e1 vis;refine wpAny_AugAssign_Name ?_;have go:wpAny (model X.prog X.w) X.A (eval e X.env) (λw s₂=>wpAny (model X.prog X.w) X.A (inplaceOp op u w) (λr s₃=>wpAny (model X.prog X.w) X.A (storeName X.env x r) (λ_=>SP X pins D .next) X.xe s₃) X.xe s₂) X.xe s:=by
  refine c_ (he pins s σ H _ I h) λw s1 ⟨y,H1,I1,r1,q1⟩=>?_
  refine c_ (ho pins s1 σ H1 v y u w _ I1 r r1 q1) λz s2 ⟨zv,H2,I2,r2,q2⟩=>?_
  exact tO I2 hN hi hx r2 (λs3 I3=>⟨_,H2,I3,q2⟩) hf
 rcases l with⟨hk,hm⟩|⟨hk,c,hc,Mp⟩
 ·exact wpAny_loadName_local I.ok.kind hk hn hm go
 ·rcases hk with hk|hk
  ·exact wpAny_loadName_cell I.ok.kind hk hc Mp go
  ·rcases hx with k|k
   ·have:X.env.scope.names.lookup x=some .free:=hk;rw[k]at this;cases this
   ·have:X.env.scope.names.lookup x=some .free:=hk;rw[k]at this;cases this
inductive ipI(f:Int->Int->Int)(x y:V)(H:Hp)(Q:VK):Prop
 |mk (i j:Int) (e:x= .int i) (g:y= .int j) (q:Q (.int (f i j)) H):ipI f x y H Q
theorem lJ:PIp X .Add (ipI λi j=>i+j):=by
 intro pins s σ H x y v u Q I r1 r2 h;obtain⟨i,j,e1,e2,q⟩:=h;subst e1;subst e2;obtain⟨t,rfl⟩:=r1;obtain⟨t',rfl⟩:=r2;exact iadd_int ⟨.int _,H,I.tok _,⟨_,rfl⟩,q⟩
end
section
variable {X:Cx} {pos:Pos}
def PZ(c:TT)(tb:TS):TS:=λD σ H=>∃W:Nat->St->Hp->Prop,(∃m,W m σ H)/\∀m σ H,W m σ H->
 c σ H λb H1=>if b=true then ∃N:St->Hp->Prop,(∀σ' H',N σ' H'->∃m',m'<m/\W m' σ' H')/\tb {D with nx:=N,ct:=N,bk:=D.nx} σ H1 else D.nx σ H1
theorem fi(hp:PassesOwn (model X.prog X.w) X.A X.env X.xe)(hc:PT X c tc)(hb:JH X body tb):PS X (.While c body [] pos) (PZ tc tb):=by
 intro pins s σ H D I h;obtain⟨W,⟨m0,w0⟩,turn⟩:=h;refine wpAny_While (codeAny_whileLoop (λn s'=>∃σ' H',Inv X pins σ' H' s'/\W n σ' H') ?_ m0 ⟨σ,H,I,w0⟩)
 rintro n s1 ⟨σ1,H1,I1,w1⟩
 refine wpAny_passesOwn hp (c_ (hc pins s1 σ1 H1 _ I1 (turn n σ1 H1 w1)) λb s2 ⟨H2,I2,q2⟩=>?_);cases b with
 |true=>
  obtain⟨N,hN,q2⟩:=q2;rw[ai rfl];refine wpAny_passesOwn hp (c_ (hb pins s2 σ1 H2 _ I2 q2) λf s3 q3=>?_);cases f with
  |next=>
   obtain⟨σ3,H3,I3,n3⟩:=q3;obtain⟨m',hm,w3⟩:=hN σ3 H3 n3;exact⟨m',hm,σ3,H3,I3,w3⟩
  |cont=>
   obtain⟨σ3,H3,I3,n3⟩:=q3;obtain⟨m',hm,w3⟩:=hN σ3 H3 n3;exact⟨m',hm,σ3,H3,I3,w3⟩
  |brk=>exact q3
  |ret v=>exact q3
 |false=>
  rw[ah az];exact wpAny_execs_nil ⟨σ1,H2,I2,q2⟩
end
structure It where
 go:Nat->Hp->Prop
 Pk:Nat->Hp->V->Hp->Prop
 stop:Nat->Hp->Prop
def Bp(X:Cx)(pins:List (Addr×Obj))(H:Hp)(b:Addr):Prop:=
 H b=none/\b≠X.env.locals/\b ∉ X.fs/\(b∈X.ex\/X.BS.heap.objs.size<=b)/\(∀x c,X.env.cells.lookup x=some c->c≠b)/\∀p∈X.pn++pins,p.1≠b
theorem Inv.RG{H':Hp}(I:Inv X pins σ H s)(hb:s.heap.objs.size<=b)(hn:H' b=none):Bp X pins H' b:=by
 refine⟨hn,Nat.ne_of_gt (dh I.lt hb),I.abv hb,.inr (a8 I.sz hb),λx c e z=>?_,λp hp z=>?_⟩
 ·obtain⟨v,q⟩:=I.cell x c e;exact absurd (dh q.lt (by rw[z];exact hb)) (Nat.lt_irrefl _)
 ·exact absurd (dh (Heap.lt_size (I.pin p hp).1) (by rw[z];exact hb)) (Nat.lt_irrefl _)
structure Turn(P:Program)(w:World)(K:PySem.W.Frag)(tg:Expr)(J:It)(fp:List Addr)(it:Addr)(tn:Nat->Heap->Prop):Prop where
 mem:it∈fp
 obj:∀i h,tn i h->∀b∈fp,∃o,h.get? b=some o/\∀v,o.data≠ .cell v
 keep:∀i h h',tn i h->(∀b∈fp,∀o,h.get? b=some o->h'.get? b=some o)->tn i h'
 item:∀(X:Cx),X.prog=P->X.w=w->X.K=K->X.calm=true->∀(i:Nat) (pins:List (Addr×Obj)) (s:Shared) (σ:St) (H:Hp) (E:Value->Shared->Prop),Inv X pins σ H s->(∀b∈fp,Bp X pins H b)->tn i s.heap->J.go i H->
  wpAny (model P w) X.A (pyNext (.ref it)) (λr s1=>∃u,r=some u/\
   wpAny (model P w) X.A (letOwnedTupleGo tg (.ref it) u) (λ_ s2=>∃x H',Inv X pins σ H' s2/\RelV x u/\J.Pk i H x H'/\tn (i+1) s2.heap/\∀b∈fp,H' b=none) E s1) E s
 done:∀(X:Cx),X.prog=P->X.w=w->X.K=K->X.calm=true->∀(i:Nat) (pins:List (Addr×Obj)) (s:Shared) (σ:St) (H:Hp) (E:Value->Shared->Prop),Inv X pins σ H s->(∀b∈fp,Bp X pins H b)->tn i s.heap->J.stop i H->
  wpAny (model P w) X.A (pyNext (.ref it)) (λr s1=>r=none/\Inv X pins σ H s1) E s
 self:∀(A:Around) (i:Nat) (s:Shared) (Q:Value->Shared->Prop) (E:Value->Shared->Prop),tn i s.heap->Q (.ref it) s->wpAny (model P w) A (pyIter (.ref it)) Q E s
abbrev TI:=St->Hp->(It->Hp->Prop)->Prop
def PIE(X:Cx)(pins:List (Addr×Obj))(σ:St)(tg:Expr)(R:It->Hp->Prop)(itv:Value)(s2:Shared):Prop:=
 ∃(it:Addr) (fp:List Addr) (tn:Nat->Heap->Prop) (J:It) (H':Hp),itv= .ref it/\Inv X pins σ H' s2/\Turn X.prog X.w X.K tg J fp it tn/\tn 0 s2.heap/\(∀b∈fp,Bp X pins H' b)/\R J H'
def PI(X:Cx)(tg iter:Expr)(wi:TI):Prop:=
 ∀(pins:List (Addr×Obj)) (s:Shared) (σ:St) (H:Hp) (R:It->Hp->Prop),Inv X pins σ H s->wi σ H R->
  wpAny (model X.prog X.w) X.A (eval iter X.env) (λv s1=>wpAny (model X.prog X.w) X.A (pyIter v) (PIE X pins σ tg R) X.xe s1) X.xe s
theorem Ms{E:Value->Shared->Prop}{s:Shared}{Q:Unit->Shared->Prop}(ho:s.heap.get? it=some o)(hc:o.cls= .type n)(hd:o.data= .fields vs)
  (hn:["enumerate","zip","dict_itemiterator","dict_reverseitemiterator","odict_iterator","itertools.zip_longest","itertools.pairwise"].contains n=false) (hQ:Q () s):wpAny M A (letOwnedTupleGo tg (.ref it) u) Q E s:=by
 unfold letOwnedTupleGo;cases tg<;>first
  |exact wpAny_pure hQ
  |(cases u<;>first
    |exact wpAny_pure hQ
    |(refine wpAny_bind (wpAny_load ho ?_)
      rw[hc,hd];show wpAny M A (if(["enumerate","zip","dict_itemiterator","dict_reverseitemiterator","odict_iterator","itertools.zip_longest","itertools.pairwise"].contains n&&vs[0]? ==some (rawInt _))=true then _ else _) Q E s;rw[ah (by intro h;rw[hn,Bool.false_and]at h;cases h)];exact wpAny_pure hQ))
def Sk(K:PySem.W.Frag)(a:Addr):It:=
 ⟨λi H=>∃xs x,bp K H a xs/\xs[i]? =some x,λi H x H'=>H'=H/\∀xs,bp K H a xs->xs[i]? =some x,λi H=>∃xs,bp K H a xs/\xs.length<=i⟩
def SS(lo:Int)(n:Nat):It:=⟨λi _=>i<n,λi H x H'=>H'=H/\x= .int (lo+i),λi _=>n<=i⟩
theorem MZ{K:PySem.W.Frag}(a it:Addr):Turn P w K tg (Sk K a) [it] it (λi h=>h.IsListIter it a i) where
 mem:=by simp
 obj:=λi h st b hb=>by
  have e:b=it:=by simpa using hb
  subst e;obtain⟨o,e,c,d⟩:=st;exact⟨o,e,λv z=>by rw[d]at z;cases z⟩
 keep:=λi h h' st k=>st.at λo e=>k it (by simp) o e
 item:=by
  intro X hP hw hK hc i pins s σ H E I hf st hg;subst hP hw hK;obtain⟨xs,x,hq,hx⟩:=hg;obtain⟨its,rv,p,hz⟩:=I.list hq;obtain⟨u,hu,ru⟩:=rv.get hx;obtain⟨f0,f1,f2,f3,f4,f5⟩:=hf it (by simp);refine wpAny_pyNext_list_item st p.isList (x:=u) (by simpa using hu) λh' P_ sb=>?_
  have I1:Inv X pins σ H {s with heap:=h'}:=I.turned (t':=s.toks) (λb o hb e=>(sb.2 b hb).trans e) f0 f1 f3 f4 f5;obtain⟨o,e,c,d⟩:=id P_;exact⟨u,rfl,Ms (s:={s with heap:=h'}) e c d (by decide) ⟨x,H,I1,ru,⟨rfl,λys hy=>by rw[I.Iy hy hq];exact hx⟩,P_,λb hb=>(hf b hb).1⟩⟩
 done:=by
  intro X hP hw hK hc i pins s σ H E I hf st hg;subst hP hw hK;obtain⟨xs,hq,hx⟩:=hg;obtain⟨its,rv,p,hz⟩:=I.list hq;obtain⟨f0,f1,f2,f3,f4,f5⟩:=hf it (by simp);have hl:=rv.length;exact wpAny_pyNext_list_end (I.ok.hd hc) st p.isList (by simp;omega) λh' eb=>⟨rfl,I.turned (t':=s.toks) (λb o hb e=>eb b o hb e) f0 f1 f3 f4 f5⟩
 self:=λ_ _ _ _ _ st h=>wpAny_pyIter_listiter st h
theorem JN{K:PySem.W.Frag}(it:Addr)(lo:Int)(n:Nat):Turn P w K tg (SS lo n) [it] it (λi h=>IsRangeIter h it (lo+(i:Nat)*1) ((n:Int) - (i:Nat)) 1) where
 mem:=by simp
 obj:=λi h st b hb=>by
  have e:b=it:=by simpa using hb
  subst e;exact⟨_,st,λv z=>by
   have z':Data.fields _=Data.cell v:=z;cases z'⟩
 keep:=λi h h' st k=>k it (by simp) _ st
 item:=by
  intro X hP hw hK hc i pins s σ H E I hf st hg;subst hP hw hK;obtain⟨f0,f1,f2,f3,f4,f5⟩:=hf it (by simp);have W:=Walks.range (prog:=X.prog) (w:=X.w) (I.ok.hd hc) it lo 1 n;refine W.item i s _ _ hg st λv h' tk hv P_ kk=>?_
  obtain⟨t,rfl⟩:=hv;have I1:Inv X pins σ H {s with heap:=h',toks:=tk}:=I.turned (λb o hb e=>kk b o (by simpa using hb) e) f0 f1 f3 f4 f5;refine⟨_,rfl,Ms (s:={s with heap:=h',toks:=tk}) (n:="range_iterator") P_ rfl rfl (by decide) ⟨.int (lo+i),H,I1,⟨t,?_⟩,⟨rfl,rfl⟩,P_,λb hb=>(hf b hb).1⟩⟩;rw[Int.mul_one]
 done:=by
  intro X hP hw hK hc i pins s σ H E I hf st hg;subst hP hw hK;obtain⟨f0,f1,f2,f3,f4,f5⟩:=hf it (by simp);exact wpAny_pyNext_range_end (I.ok.hd hc) st (by have:n<=i:=hg;omega) λh' eb=>⟨rfl,I.turned (t':=s.toks) (λb o hb e=>eb b o hb e) f0 f1 f3 f4 f5⟩
 self:=λ_ _ _ _ _ st h=>wpAny_pyIter_rangeiter st h
end L2
namespace L2
open PySem PySem.Spec PyProof.Rows
section
variable {X:Cx} {tg:Expr}
inductive IIL(K:PySem.W.Frag)(R:It->Hp->Prop)(x:V)(H:Hp):Prop
 |mk (a:Addr) (e:x= .ref a) (s:∃xs,bp K H a xs) (q:R (Sk K a) H):IIL K R x H
def YX(K:PySem.W.Frag)(tl:TE):TI:=λσ H R=>tl σ H (IIL K R)
theorem dG(hl:PE X l tl):PI X tg l (YX X.K tl):=by
 intro pins s σ H R I h;refine c_ (hl pins s σ H _ I h) λv s1 ⟨x,H1,I1,r1,q1⟩=>?_
 obtain⟨a,e,⟨xs,hq⟩,q⟩:=q1;subst e;cases r1;obtain⟨its,rv,p,hz⟩:=I1.list hq;refine wpAny_pyIter_list p.isList ?_;refine⟨s1.heap.objs.size,[s1.heap.objs.size],_,_,H1,rfl,I1.kept (t':=s1.toks) λb o e=>Heap.get?_push_of_some _ e,MZ a _,⟨_,Heap.get?_push_size _ rfl,rfl,rfl⟩,λb hb=>?_,q⟩;have e:b=s1.heap.objs.size:=by simpa using hb
 subst e;exact I1.RG (aM _) (I1.cM.fresh (aM _))
theorem HG{pins:List (Addr×Obj)}{σ:St}{H:Hp}{s:Shared}{R:It->Hp->Prop}{E:Value->Shared->Prop}{lo hi:Int}{t u v:Tok}{tk:Nat}(I:Inv X pins σ H s)(h1: -(2 ^ 62)<=lo)(h2:lo<2 ^ 62)(h3: -(2 ^ 62)<=hi)(h4:hi<2 ^ 62)
  (q:R (SS lo (hi - lo).toNat) H):wpAny (model X.prog X.w) X.A (pyIter (.ref s.heap.objs.size)) (PIE X pins σ tg R) E {s with heap:=s.heap.push {cls:=.type "range",data:=.fields #[.int lo t,.int hi u,.int 1 v]},toks:=tk}:=by
 refine wpAny_pyIter_range (IsRange.new ..) (small_one h1 h2 h3 h4) ?_;have I1:Inv X pins σ H {s with heap:=s.heap.push {cls:=.type "range",data:=.fields #[.int lo t,.int hi u,.int 1 v]},toks:=tk}:=I.kept λb o e=>Heap.get?_push_of_some _ e
 refine⟨(s.heap.push {cls:=.type "range",data:=.fields #[.int lo t,.int hi u,.int 1 v]}).objs.size,[(s.heap.push {cls:=.type "range",data:=.fields #[.int lo t,.int hi u,.int 1 v]}).objs.size],_,_,H,rfl,
  I1.kept (t':=tk) λb o e=>Heap.get?_push_of_some _ e,JN _ lo (hi - lo).toNat,?_,λb hb=>?_,q⟩
 ·have e1:lo+((0:Nat):Int)*1=lo:=by simp
  have e2:(((hi - lo).toNat:Nat):Int) - ((0:Nat):Int)=Builtin.Range.rangeSize lo hi 1:=by rw[rangeSize_one];split<;>omega
  show IsRangeIter _ _ (lo+((0:Nat):Int)*1) ((((hi - lo).toNat:Nat):Int) - ((0:Nat):Int)) 1;rw[e1,e2];exact Heap.get?_push_size _ rfl
 ·have e:b=(s.heap.push {cls:=.type "range",data:=.fields #[.int lo t,.int hi u,.int 1 v]}).objs.size:=by simpa using hb
  subst e;exact I1.RG (aM _) (I1.cM.fresh (aM _))
inductive IR1(R:It->Hp->Prop)(vs:List V)(H:Hp):Prop
 |mk (j:Int) (e:vs=[.int j]) (f: -(2 ^ 62)<=j) (g:j<2 ^ 62) (q:R (SS 0 j.toNat) H):IR1 R vs H
def UX(ta:TA):TI:=λσ H R=>ta σ H (IR1 R)
def YW(ta:TA):TI:=λσ H R=>ta σ H λvs H1=>∃i j:Int,vs=[.int i,.int j]/\(-(2 ^ 62)<=i/\i<2 ^ 62/\ -(2 ^ 62)<=j/\j<2 ^ 62)/\R (SS i (j - i).toNat) H1
theorem vQ(hg:Gl X "range")(hm:X.mg "range"=none)(ha:PA X [a] ta)(hs:starEach [a] X.env=[(false,eval a X.env)]:=by rfl):PI X tg (.Call (.Name "range" p) [a] [] pos) (UX ta):=by
 intro pins s σ H R I h;refine Call_ (nU I hg hm boot_range (PyProof.Rows.callWith_type1 (c_ (ha pos pins s σ H _ I h) λus s1 ⟨vs,H1,I1,r1,q1⟩=>?_) hs rfl));obtain⟨j,e,q1,q2,q⟩:=q1;subst e;cases r1 with
 |cons r rr=>
  cases rr;obtain⟨t,rfl⟩:=r;exact call_range_1 (HG I1 (by omega) (by omega) q1 q2 (by simpa using q))
theorem Nm(hg:Gl X "range")(hm:X.mg "range"=none)(ha:PA X [a,b] ta)(hs:starEach [a,b] X.env=[(false,eval a X.env),(false,eval b X.env)]:=by rfl)(Y7:starEach [b] X.env=[(false,eval b X.env)]:=by rfl):
  PI X tg (.Call (.Name "range" p) [a,b] [] pos) (YW ta):=by
 intro pins s σ H R I h;refine Call_ (nU I hg hm boot_range (PyProof.Rows.callWith_type1 (c_ (ha pos pins s σ H _ I h) λus s1 ⟨vs,H1,I1,r1,q1⟩=>?_) (by rw[hs,Y7]) (by rw[Y7];rfl)));obtain⟨i,j,e,⟨q1,q2,q3,q4⟩,q⟩:=q1;subst e;cases r1 with
 |cons r rr=>
  cases rr with
  |cons r' rr=>
   cases rr;obtain⟨t,rfl⟩:=r;obtain⟨t',rfl⟩:=r';exact call_range_2 (HG I1 q1 q2 q3 q4 q)
def XU(wi:TI)(g:TG)(tb:TS):TS:=λD σ H=>wi σ H λJ H1=>∃W:Nat->Nat->St->Hp->Prop,(∃m,W 0 m σ H1)/\∀i m σ H,W i m σ H->
 (J.stop i H/\D.nx σ H)\/(J.go i H/\∃N:St->Hp->Prop,(∀σ' H',N σ' H'->∃m',m'<m/\W (i+1) m' σ' H')/\∀x H',J.Pk i H x H'->g x σ H' λσ2 H2=>tb {D with nx:=N,ct:=N,bk:=D.nx} σ2 H2)
def zW(fp:List Addr)(h:Heap):List (Addr×Obj):=fp.filterMap λb=>(h.get? b).map λo=>(b,o)
theorem sx{h:Heap}(hb:b∈fp)(e:h.get? b=some o):(b,o)∈zW fp h:=List.mem_filterMap.mpr ⟨b,hb,by rw[e];rfl⟩
theorem NB(hp:p∈zW fp h):p.1∈fp/\h.get? p.1=some p.2:=by
 obtain⟨b,hb,e⟩:=List.mem_filterMap.mp hp;cases q:h.get? b with
 |none=>rw[q]at e;cases e
 |some o=>
  rw[q]at e;have e':(b,o)=p:=aO e;subst e';exact⟨hb,q⟩
theorem Inv.pinned(I:Inv X pins σ H s)(hf:∀b∈fp,Bp X pins H b)(ho:∀b∈fp,∃o,s.heap.get? b=some o/\∀v,o.data≠ .cell v):Inv X (pins++zW fp s.heap) σ H s:=
 I.L_ λp hp=>(List.mem_append.mp hp).elim (λz=>I.pin p (List.mem_append_right _ z)) λz=>by
  obtain⟨hb,e⟩:=NB z;obtain⟨f0,f1,f2,_⟩:=hf p.1 hb;obtain⟨o,e',d⟩:=ho p.1 hb;rw[e]at e';cases e';exact⟨e,f0,f1,f2,d⟩
theorem Inv.tK(I:Inv X (pins++pl) σ H s):Inv X pins σ H s:=I.L_ λp hp=>I.pin p (List.mem_append_right _ (List.mem_append_left _ hp))
theorem gF(hp:PassesOwn (model X.prog X.w) X.A X.env X.xe)(hc:X.calm=true)(hi:PI X tg iter wi)(hg:PG X tg g)(hb:JH X body tb)
  (hs:∀x,foldedSetIterable iter X.env x=pure x:=by intro _;rfl):PS X (.For tg iter body [] pos) (XU wi g tb):=by
 intro pins s σ H D I h;refine wpAny_For (c_ (hi pins s σ H _ I h) λv s1 h1=>c_ h1 λitv s2 h2=>?_) hs;obtain⟨it,fp,tn,J,H2,e,I2,T,P9,f2,W,⟨m0,w0⟩,turn⟩:=h2;subst e;have JR:∀{H':Hp},(∀b∈fp,H' b=none)->∀b∈fp,Bp X pins H' b:=λhn b hb=>⟨hn b hb,(f2 b hb).2⟩
 refine codeAny_forLoop_any (λn s'=>∃i σ' H',Inv X pins σ' H' s'/\tn i s'.heap/\(∀b∈fp,H' b=none)/\W i n σ' H') ?_ m0 ⟨0,σ,H2,I2,P9,λb hb=>(f2 b hb).1,w0⟩
 rintro n s3 ⟨i,σ3,H3,I3,st3,fr3,w3⟩
 rcases turn i n σ3 H3 w3 with⟨stop,qn⟩|⟨go,N,hN,step⟩
 ·refine wpAny_passesOwn hp (c_ (T.done X rfl rfl rfl hc i pins s3 σ3 H3 X.xe I3 (JR fr3) st3 stop) λr s4 ⟨hr,I4⟩=>?_);subst hr;exact wpAny_execs_nil ⟨σ3,H3,I4,qn⟩
 ·refine wpAny_passesOwn hp (c_ (T.item X rfl rfl rfl hc i pins s3 σ3 H3 X.xe I3 (JR fr3) st3 go) λr s4 ⟨u,hr,h4⟩=>?_);subst hr;refine wpAny_passesOwn hp (c_ h4 λ_ s5 ⟨x,H5,I5,r5,y5,UH,fr5⟩=>?_);have I5':=I5.pinned (JR fr5) (T.obj _ _ UH);refine wpAny_passesOwn hp (c_ (hg _ s5 σ3 H5 x u _ I5' r5 (step x H5 y5)) λ_ s6 ⟨σ6,H6,I6,q6⟩=>?_);refine wpAny_passesOwn hp (c_ (hb _ s6 σ6 H6 _ I6 q6) λf s7 q7=>?_);have again:∀{σ7:St} {H7:Hp},Inv X (pins++zW fp s5.heap) σ7 H7 s7->N σ7 H7->∃m,m<n/\∃i σ' H',Inv X pins σ' H' s7/\tn i s7.heap/\(∀b∈fp,H' b=none)/\W i m σ' H':=λ{σ7 H7} I7 n7=>by
   obtain⟨m',hm,w7⟩:=hN σ7 H7 n7;refine⟨m',hm,i+1,σ7,H7,I7.tK,T.keep _ _ _ UH λb hb o e=>(I7.pin (b,o) (List.mem_append_right _ (List.mem_append_right _ (sx hb e)))).1,λb hb=>?_,w7⟩;obtain⟨o,e,d⟩:=T.obj _ _ UH b hb;exact(I7.pin (b,o) (List.mem_append_right _ (List.mem_append_right _ (sx hb e)))).2.1
  cases f with
  |next=>obtain⟨σ7,H7,I7,n7⟩:=q7;exact again I7 n7
  |cont=>obtain⟨σ7,H7,I7,n7⟩:=q7;exact again I7 n7
  |brk=>obtain⟨σ7,H7,I7,q7⟩:=q7;exact⟨σ7,H7,I7.tK,q7⟩
  |ret v=>obtain⟨x7,σ7,H7,I7,r7,q7⟩:=q7;exact⟨x7,σ7,H7,I7.tK,r7,q7⟩
end
theorem je{K:PySem.W.Frag}{a:Addr}{xs:List V}{g:TG}{tb:TS}{D:Ends}{σ:St}{H:Hp}(Pv:Nat->St->Hp->Prop)(h0:Pv 0 σ H)(hl:∀i σ H,i<=xs.length->Pv i σ H->bp K H a xs)
  (hs:∀i x σ H,xs[i]? =some x->Pv i σ H->g x σ H λσ2 H2=>tb {D with nx:=Pv (i+1),ct:=Pv (i+1),bk:=D.nx} σ2 H2) (hd:∀σ H,Pv xs.length σ H->D.nx σ H):
  ∃W:Nat->Nat->St->Hp->Prop,(∃m,W 0 m σ H)/\∀i m σ H,W i m σ H->
   ((Sk K a).stop i H/\D.nx σ H)\/((Sk K a).go i H/\∃N:St->Hp->Prop,(∀σ' H',N σ' H'->∃m',m'<m/\W (i+1) m' σ' H')/\∀x H',(Sk K a).Pk i H x H'->g x σ H' λσ2 H2=>tb {D with nx:=N,ct:=N,bk:=D.nx} σ2 H2):=by
 refine⟨λi m σ H=>m=xs.length - i/\i<=xs.length/\Pv i σ H,⟨xs.length,by simp,bw _,h0⟩,?_⟩
 rintro i m σ H ⟨rfl,hi,p⟩
 have q:=hl i σ H hi p;by_cases eP:i<xs.length
 ·refine .inr ⟨⟨xs,xs[i],q,by simp[eP]⟩,Pv (i+1),λσ' H' p'=>⟨xs.length - (i+1),by omega,rfl,eP,p'⟩,λx H' y=>?_⟩;obtain⟨e,y⟩:=y;subst e;exact hs i x σ _ (y xs q) p
 ·have e:i=xs.length:=by omega
  subst e;exact .inl ⟨⟨xs,q,aM _⟩,hd σ H p⟩
theorem wG{lo:Int}{n:Nat}{g:TG}{tb:TS}{D:Ends}{σ:St}{H:Hp}(Pv:Nat->St->Hp->Prop)(h0:Pv 0 σ H)
  (hs:∀i σ H,i<n->Pv i σ H->g (.int (lo+i)) σ H λσ2 H2=>tb {D with nx:=Pv (i+1),ct:=Pv (i+1),bk:=D.nx} σ2 H2) (hd:∀σ H,Pv n σ H->D.nx σ H):
  ∃W:Nat->Nat->St->Hp->Prop,(∃m,W 0 m σ H)/\∀i m σ H,W i m σ H->
   ((SS lo n).stop i H/\D.nx σ H)\/((SS lo n).go i H/\∃N:St->Hp->Prop,(∀σ' H',N σ' H'->∃m',m'<m/\W (i+1) m' σ' H')/\∀x H',(SS lo n).Pk i H x H'->g x σ H' λσ2 H2=>tb {D with nx:=N,ct:=N,bk:=D.nx} σ2 H2):=by
 refine⟨λi m σ H=>m=n - i/\i<=n/\Pv i σ H,⟨n,by simp,bw _,h0⟩,?_⟩
 rintro i m σ H ⟨rfl,hi,p⟩
 by_cases eP:i<n
 ·refine .inr ⟨eP,Pv (i+1),λσ' H' p'=>⟨n - (i+1),by omega,rfl,eP,p'⟩,λx H' y=>?_⟩;obtain⟨e,y⟩:=y;subst e y;exact hs i σ _ eP p
 ·have e:i=n:=by omega
  subst e;exact .inl ⟨aM _,hd σ H p⟩
theorem eY{c:TT}(Pv:St->Hp->Prop)(μ:St->Hp->Nat)(h0:Pv σ H)
  (hs:∀σ H,Pv σ H->c σ H λb H1=>if b=true then tb {D with nx:=λσ' H'=>Pv σ' H'/\μ σ' H'<μ σ H,ct:=λσ' H'=>Pv σ' H'/\μ σ' H'<μ σ H,bk:=D.nx} σ H1 else D.nx σ H1)
  (mono:∀σ H Q Q',(∀b H1,Q b H1->Q' b H1)->c σ H Q->c σ H Q'):PZ c tb D σ H:=by
 refine⟨λm σ H=>m=μ σ H/\Pv σ H,⟨_,rfl,h0⟩,?_⟩
 rintro m σ H ⟨rfl,p⟩
 refine mono σ H _ _ (λb H1 q=>?_) (hs σ H p);cases b with
 |true=>exact⟨_,λσ' H' ⟨p',l⟩=>⟨_,l,rfl,p'⟩,q⟩
 |false=>exact q
end L2
namespace L2
open PySem PySem.Spec PyProof.Rows
abbrev R2:=V->V->Hp->VK->Prop
def sZ(X:Cx)(f:Value->Value->Sem Value)(r:R2):Prop:=
 ∀(pins:List (Addr×Obj)) (s:Shared) (σ:St) (H:Hp) (x y:V) (v u:Value) (Q:VK),Inv X pins σ H s->RelV x v->RelV y u->r x y H Q->
  wpAny (model X.prog X.w) X.A (f v u) (EP X pins σ Q) X.xe s
def UnR(X:Cx)(f:Value->Sem Value)(r:V->Hp->VK->Prop):Prop:=
 ∀(pins:List (Addr×Obj)) (s:Shared) (σ:St) (H:Hp) (x:V) (v:Value) (Q:VK),Inv X pins σ H s->RelV x v->r x H Q->
  wpAny (model X.prog X.w) X.A (f v) (EP X pins σ Q) X.xe s
def vp(X:Cx)(f:Value)(r:List V->Hp->VK->Prop):Prop:=
 ∀(pins:List (Addr×Obj)) (s:Shared) (σ:St) (H:Hp) (xs:List V) (us:List Value) (Q:VK),Inv X pins σ H s->Vals xs us->r xs H Q->
  wpAny (model X.prog X.w) X.A (call f us) (EP X pins σ Q) X.xe s
def Hf(r:R2)(ta tb:TE):TE:=λσ H Q=>ta σ H λx H1=>tb σ H1 λy H2=>r x y H2 Q
def tUn(r:V->Hp->VK->Prop)(ta:TE):TE:=λσ H Q=>ta σ H λx H1=>r x H1 Q
inductive rI(C:Int->Int->Prop)(g:Int->Int->V)(x y:V)(H:Hp)(Q:VK):Prop
 |mk (i j:Int) (e:x= .int i) (f:y= .int j) (c:C i j) (q:Q (g i j) H):rI C g x y H Q
inductive zS(g:Int->Int->V)(x y:V)(H:Hp)(Q:VK):Prop
 |mk (i j:Int) (e:x= .int i) (f:y= .int j) (q:Q (g i j) H):zS g x y H Q
def rU(g:Int->V):V->Hp->VK->Prop:=λx H Q=>∃i,x= .int i/\Q (g i) H
section
variable {X:Cx} {a b c:Expr} {ta tb tc:TE} {pos:Pos}
theorem W8(ha:PE X a ta)(hb:PE X b tb){R:V->V->Hp->Prop}(I:Inv X pins σ H s)
  (h:ta σ H λx H1=>tb σ H1 λy H2=>R x y H2) {Q:Value->Shared->Prop} {f:Value->Value->Sem Value}
  (hf:∀v u s2 x y H2,Inv X pins σ H2 s2->RelV x v->RelV y u->R x y H2->wpAny (model X.prog X.w) X.A (f v u) Q X.xe s2):
  wpAny (model X.prog X.w) X.A (eval a X.env) (λv s₁=>wpAny (model X.prog X.w) X.A (eval b X.env) (λu s₂=>wpAny (model X.prog X.w) X.A (f v u) Q X.xe s₂) X.xe s₁) X.xe s:=by
 refine c_ (ha pins s σ H _ I h) λv s1 ⟨x,H1,I1,r1,q1⟩=>?_
 refine c_ (hb pins s1 σ H1 _ I1 q1) λu s2 ⟨y,H2,I2,r2,q2⟩=>?_
 exact hf v u s2 x y H2 I2 r1 r2 q2
theorem bb(ho:sZ X (binaryOp op) r)(ha:PE X a ta)(hb:PE X b tb):PE X (.BinOp a op b pos) (Hf r ta tb):=by
 intro pins s σ H Q I h;exact wpAny_BinOp (W8 ha hb I h λv u s2 x y H2 I2 rx ry q=>ho pins s2 σ H2 x y v u Q I2 rx ry q)
theorem rl{r:V->Hp->VK->Prop}(ho:UnR X (unaryOp op) r)(ha:PE X a ta):PE X (.UnaryOp op a pos) (tUn r ta):=by
 intro pins s σ H Q I h;exact UnaryOp_ (c_ (ha pins s σ H _ I h) λv s1 ⟨x,H1,I1,r1,q1⟩=>ho pins s1 σ H1 x v Q I1 r1 q1)
theorem YC{f:Value->Value->Sem Value}{C:Int->Int->Prop}{g:Int->Int->Int}
  (rule:∀(i j:Int) (t u:Tok) (s:Shared) (Q:Value->Shared->Prop) (E:Value->Shared->Prop),C i j->Q (.int (g i j) s.toks) {s with toks:=s.toks+1}->wpAny (model X.prog X.w) X.A (f (.int i t) (.int j u)) Q E s):
  sZ X f (rI C λi j=>.int (g i j)):=by
 intro pins s σ H x y v u Q I rx ry h;obtain⟨i,j,rfl,rfl,hc,q⟩:=h;obtain⟨t,rfl⟩:=rx;obtain⟨t',rfl⟩:=ry;exact rule i j t t' s _ _ hc ⟨.int (g i j),H,I.tok _,⟨_,rfl⟩,q⟩
theorem Tw{f:Value->Value->Sem Value}{g:Int->Int->Int}
  (rule:∀(i j:Int) (t u:Tok) (s:Shared) (Q:Value->Shared->Prop) (E:Value->Shared->Prop),Q (.int (g i j) s.toks) {s with toks:=s.toks+1}->wpAny (model X.prog X.w) X.A (f (.int i t) (.int j u)) Q E s):
  sZ X f (zS λi j=>.int (g i j)):=by
 intro pins s σ H x y v u Q I rx ry h;obtain⟨i,j,rfl,rfl,q⟩:=h;obtain⟨t,rfl⟩:=rx;obtain⟨t',rfl⟩:=ry;exact rule i j t t' s _ _ ⟨.int (g i j),H,I.tok _,⟨_,rfl⟩,q⟩
theorem Tx{f:Value->Value->Sem Value}{g:Int->Int->Bool}
  (rule:∀(i j:Int) (t u:Tok) (s:Shared) (Q:Value->Shared->Prop) (E:Value->Shared->Prop),Q (.bool (g i j)) s->wpAny (model X.prog X.w) X.A (f (.int i t) (.int j u)) Q E s):
  sZ X f (zS λi j=>.bl (g i j)):=by
 intro pins s σ H x y v u Q I rx ry h;obtain⟨i,j,rfl,rfl,q⟩:=h;obtain⟨t,rfl⟩:=rx;obtain⟨t',rfl⟩:=ry;exact rule i j t t' s _ _ ⟨.bl (g i j),H,I,rfl,q⟩
def acq(i j:Int):Prop:=0<j/\j<1073741824
def acp(i j:Int):Prop:=0<=j/\j<=1000000/\i.natAbs<2 ^ 64
def Xg(i j:Int):Prop:=(-(2 ^ 64)<i/\i<2 ^ 64)\/(-(2 ^ 64)<j/\j<2 ^ 64)
theorem Xg.ok(h:Xg i j):IntMulOk i j:=by
 rcases h with⟨h1,h2⟩|⟨h1,h2⟩
 ·exact .of_left (intBits_le_64 h1 h2)
 ·exact .of_right (intBits_le_64 h1 h2)
theorem JL(k:Nat):(0:Int)<=2 ^ k:=by
 rw[two_pow_cast];exact Int.natCast_nonneg _
theorem ck:sZ X (binaryOp .Add) (zS λi j=>.int (i+j)):=Tw λ_ _ _ _ _ _ _ q=>add_int q
theorem vV:sZ X (binaryOp .Sub) (zS λi j=>.int (i - j)):=Tw λ_ _ _ _ _ _ _ q=>sub_int q
theorem Fi:sZ X (binaryOp .Mult) (rI Xg λi j=>.int (i*j)):=YC λ_ _ _ _ _ _ _ hc q=>mul_int q hc.ok
theorem Tv:sZ X (binaryOp .FloorDiv) (rI acq λi j=>.int (i / j)):=YC λi j _ _ _ _ _ hc q=>by
 have h1:(0:Int)<j:=hc.1;have h2:j<1073741824:=hc.2;exact floordiv_int (by omega) (by rw[Int.fdiv_eq_ediv_of_nonneg i (by omega)];exact q) (.inl (PyProof.noPylong_small (by omega)))
theorem vW:sZ X (binaryOp .Mod) (rI (λ_ j=>0<j) λi j=>.int (i % j)):=YC λi j _ _ _ _ _ hc q=>by
 have h1:(0:Int)<j:=hc;exact mod_int' (by omega) (by rw[Int.fmod_eq_emod_of_nonneg i (by omega)];exact q)
theorem VV:sZ X (binaryOp .LShift) (rI acp λi j=>.int (i*2 ^ j.toNat)):=YC λ_ _ _ _ _ _ _ hc q=>lshift_int_small hc.1 hc.2.1 hc.2.2 q
theorem VU:sZ X (binaryOp .RShift) (rI (λ_ j=>0<=j) λi j=>.int (i / 2 ^ j.toNat)):=YC λi j _ _ _ _ _ hc q=>
 rshift_int hc (by rw[Int.fdiv_eq_ediv_of_nonneg i (JL _)];exact q)
theorem VX:sZ X (binaryOp .BitAnd) (zS λi j=>.int (Builtin.bitAnd i j)):=Tw λ_ _ _ _ _ _ _ q=>and_int q
theorem YB:sZ X (binaryOp .BitOr) (zS λi j=>.int (Builtin.bitOr i j)):=Tw λ_ _ _ _ _ _ _ q=>or_int q
theorem unI{f:Value->Sem Value}{g:Int->Int}
  (rule:∀(i:Int) (t:Tok) (s:Shared) (Q:Value->Shared->Prop) (E:Value->Shared->Prop),Q (.int (g i) s.toks) {s with toks:=s.toks+1}->wpAny (model X.prog X.w) X.A (f (.int i t)) Q E s):
  UnR X f (rU λi=>.int (g i)):=by
 intro pins s σ H x v Q I rx h;obtain⟨i,rfl,q⟩:=h;obtain⟨t,rfl⟩:=rx;exact rule i t s _ _ ⟨.int (g i),H,I.tok _,⟨_,rfl⟩,q⟩
theorem kZ:UnR X (unaryOp .USub) (rU λi=>.int (-i)):=unI λ_ _ _ _ _ q=>neg_int q
end
def Yb:V->V->Bool
 | .dt,.dt=>true| .dt,.int _=>true| .int _,.dt=>true| .dt,.bl _=>true| .bl _,.dt=>true| .dt,.str _=>true| .str _,.dt=>true
 | .int _,.int _=>true| .bl _,.bl _=>true| .str _,.str _=>true| .GC _,.GC _=>true
 | .int _,.str _=>true| .str _,.int _=>true| .bl _,.str _=>true| .str _,.bl _=>true
 |_,_=>false
def rEq:R2:=λx y H Q=>Yb x y=true/\Q (.bl (decide (x=y))) H
def rNe:R2:=λx y H Q=>Yb x y=true/\Q (.bl (!decide (x=y))) H
theorem MG:decide (V.int i=V.int j)=(i==j):=by
 rw[Bool.eq_iff_iff];simp
theorem RX:decide (V.bl i=V.bl j)=(i==j):=by
 rw[Bool.eq_iff_iff];simp
theorem ME:decide (V.str i=V.str j)=(i==j):=by
 rw[Bool.eq_iff_iff];simp
theorem MH:decide (V.GC i=V.GC j)=(i.toList==j.toList):=by
 rw[Bool.eq_iff_iff];cases i;cases j;simp
section
variable {X:Cx} {a b c:Expr} {ta tb tc:TE} {pos:Pos}
theorem b8{Q:VK}(I:Inv X pins σ H s)(q:Q (.bl k) H)(e:k=k'):EP X pins σ Q (.bool k') s:=by
 subst e;exact⟨.bl k,H,I,rfl,q⟩
theorem dg:sZ X (compareOp .Eq) rEq:=by
 intro pins s σ H x y v u Q I rx ry h;obtain⟨hs,q⟩:=h;cases x with
 |dt=>
  cases rx;cases y with
  |dt=>cases ry;exact PySem.EqNone.eq_none_none (b8 I q (by simp))
  |bl j=>cases ry;exact PySem.EqNone.eq_none_bool (b8 I q (by simp))
  |int j=>obtain⟨t',rfl⟩:=ry;exact PySem.EqNone.eq_none_int (b8 I q (by simp))
  |str j=>obtain⟨t',rfl⟩:=ry;exact PySem.EqNone.eq_none_str (b8 I q (by simp))
  |_=>exact absurd (show false=true from hs) az
 |bl i=>
  cases rx;cases y with
  |dt=>cases ry;exact PySem.EqNone.eq_bool_none (b8 I q (by simp))
  |bl j=>cases ry;exact eq_bool (b8 I q RX)
  |str j=>obtain⟨t',rfl⟩:=ry;exact PySem.EqMixed.eq_bool_str (b8 I q (by simp))
  |_=>exact absurd (show false=true from hs) az
 |int i=>
  obtain⟨t,rfl⟩:=rx;cases y with
  |dt=>cases ry;exact PySem.EqNone.eq_int_none (b8 I q (by simp))
  |int j=>obtain⟨t',rfl⟩:=ry;exact eq_int (b8 I q MG)
  |str j=>obtain⟨t',rfl⟩:=ry;exact PySem.EqMixed.eq_int_str (b8 I q (by simp))
  |_=>exact absurd (show false=true from hs) az
 |str i=>
  obtain⟨t,rfl⟩:=rx;cases y with
  |dt=>cases ry;exact PySem.EqNone.eq_str_none (b8 I q (by simp))
  |bl j=>cases ry;exact PySem.EqMixed.eq_str_bool (b8 I q (by simp))
  |int j=>obtain⟨t',rfl⟩:=ry;exact PySem.EqMixed.eq_str_int (b8 I q (by simp))
  |str j=>obtain⟨t',rfl⟩:=ry;exact eq_str (b8 I q ME)
  |_=>exact absurd (show false=true from hs) az
 |GC i=>
  obtain⟨t,rfl⟩:=rx;cases y with
  |GC j=>obtain⟨t',rfl⟩:=ry;exact PySem.W.eq_bytes (b8 I q MH)
  |_=>exact absurd (show false=true from hs) az
 |_=>cases y<;>exact absurd (show false=true from hs) az
theorem j0:sZ X (compareOp .NotEq) rNe:=by
 intro pins s σ H x y v u Q I rx ry h;obtain⟨hs,q⟩:=h;cases x with
 |dt=>
  cases rx;cases y with
  |dt=>cases ry;exact PySem.EqNone.ne_none_none (b8 I q (by simp))
  |bl j=>cases ry;exact PySem.EqNone.ne_none_bool (b8 I q (by simp))
  |int j=>obtain⟨t',rfl⟩:=ry;exact PySem.EqNone.ne_none_int (b8 I q (by simp))
  |str j=>obtain⟨t',rfl⟩:=ry;exact PySem.EqNone.ne_none_str (b8 I q (by simp))
  |_=>exact absurd (show false=true from hs) az
 |bl i=>
  cases rx;cases y with
  |dt=>cases ry;exact PySem.EqNone.ne_bool_none (b8 I q (by simp))
  |bl j=>cases ry;exact ne_bool (b8 I q (congrArg not RX))
  |str j=>obtain⟨t',rfl⟩:=ry;exact PySem.EqMixed.ne_bool_str (b8 I q (by simp))
  |_=>exact absurd (show false=true from hs) az
 |int i=>
  obtain⟨t,rfl⟩:=rx;cases y with
  |dt=>cases ry;exact PySem.EqNone.ne_int_none (b8 I q (by simp))
  |int j=>obtain⟨t',rfl⟩:=ry;exact ne_int (b8 I q (congrArg not MG))
  |str j=>obtain⟨t',rfl⟩:=ry;exact PySem.EqMixed.ne_int_str (b8 I q (by simp))
  |_=>exact absurd (show false=true from hs) az
 |str i=>
  obtain⟨t,rfl⟩:=rx;cases y with
  |dt=>cases ry;exact PySem.EqNone.ne_str_none (b8 I q (by simp))
  |bl j=>cases ry;exact PySem.EqMixed.ne_str_bool (b8 I q (by simp))
  |int j=>obtain⟨t',rfl⟩:=ry;exact PySem.EqMixed.ne_str_int (b8 I q (by simp))
  |str j=>obtain⟨t',rfl⟩:=ry;exact ne_str (b8 I q (congrArg not ME))
  |_=>exact absurd (show false=true from hs) az
 |GC i=>
  obtain⟨t,rfl⟩:=rx;cases y with
  |GC j=>obtain⟨t',rfl⟩:=ry;exact PySem.W.ne_bytes (b8 I q (congrArg not MH))
  |_=>exact absurd (show false=true from hs) az
 |_=>cases y<;>exact absurd (show false=true from hs) az
theorem oz:sZ X (compareOp .Lt) (zS λi j=>.bl (decide (i<j))):=Tx λ_ _ _ _ _ _ _ q=>lt_int q
theorem f_:sZ X (compareOp .LtE) (zS λi j=>.bl (decide (i<=j))):=Tx λ_ _ _ _ _ _ _ q=>le_int q
theorem ux:sZ X (compareOp .Gt) (zS λi j=>.bl (decide (j<i))):=Tx λ_ _ _ _ _ _ _ q=>gt_int q
theorem uy:sZ X (compareOp .GtE) (zS λi j=>.bl (decide (j<=i))):=Tx λ_ _ _ _ _ _ _ q=>ge_int q
theorem Nw:sZ X (compareOp .In) (λx y H Q=>∃i j,x= .str i/\y= .str j/\Q (.bl (!(Builtin.Str.occurrences j i 0 j.length 1).isEmpty)) H):=by
 intro pins s σ H x y v u Q I rx ry h;obtain⟨i,j,rfl,rfl,q⟩:=h;obtain⟨t,rfl⟩:=rx;obtain⟨t',rfl⟩:=ry;exact in_str (b8 I q rfl)
theorem aK(b:Expr)(h:op≠ .In:=by decide)(h2:op≠ .NotIn:=by decide):behindInMarks op b=false:=by
 have e1:(op==CmpOp.In)=false:=by cases op<;>first|rfl|exact absurd rfl h
 have e2:(op==CmpOp.NotIn)=false:=by cases op<;>first|rfl|exact absurd rfl h2
 cases b<;>simp[behindInMarks,e1,e2]
theorem iU(ho:sZ X (compareOp op) r)(ha:PE X a ta)(hb:PE X b tb)(hm:behindInMarks op b=false):PE X (.Compare a [op] [b] pos) (Hf r ta tb):=by
 intro pins s σ H Q I h;exact wpAny_Compare1 (W8 ha hb I h λv u s2 x y H2 I2 rx ry q=>ho pins s2 σ H2 x y v u Q I2 rx ry q) hm
def Dx(t:TE):TT:=λσ H Q=>t σ H (Z5 Q)
theorem aF(ho:sZ X (compareOp op) r)(ha:PE X a ta)(hb:PE X b tb)(hm:behindInMarks op b=false):PT X (.Compare a [op] [b] pos) (Dx (Hf r ta tb)):=by
 intro pins s σ H Q I h;refine wpAny_isTrue_Compare1 (c_ (ha pins s σ H _ I h) λv s1 ⟨x,H1,I1,r1,q1⟩=>c_ (hb pins s1 σ H1 _ I1 q1) λu s2 ⟨y,H2,I2,r2,q2⟩=>
  c_ (ho pins s2 σ H2 x y v u _ I2 r1 r2 q2) λc s3 ⟨z,H3,I3,r3,k,e,q3⟩=>?_) hm
 subst e;cases r3;exact wpAny_truthy_bool ⟨H3,I3,q3⟩
def P6(r r':R2)(ta tb tc:TE):TE:=λσ H Q=>ta σ H λx H1=>tb σ H1 λy H2=>r x y H2 λz H3=>∃k,z= .bl k/\
 (if k=true then tc σ H3 λw' H4=>r' y w' H4 Q else Q (.bl false) H3)
theorem zZ(ho:sZ X (compareOp op) r)(JD:sZ X (compareOp YD) r')(ha:PE X a ta)(hb:PE X b tb)(hc:PE X c tc)
  (hm:lastMarks [op,YD] [b,c]=false:=by with_unfolding_all rfl):PE X (.Compare a [op,YD] [b,c] pos) (P6 r r' ta tb tc):=by
 intro pins s σ H Q I h;refine Compare_chain (c_ (ha pins s σ H _ I h) λv s1 ⟨x,H1,I1,r1,q1⟩=>chain_link (c_ (hb pins s1 σ H1 _ I1 q1) λu s2 ⟨y,H2,I2,r2,q2⟩=>
  c_ (ho pins s2 σ H2 x y v u _ I2 r1 r2 q2) λd s3 ⟨z,H3,I3,r3,k,e,q3⟩=>?_)) hm
 subst e;cases r3;refine wpAny_truthy_bool ?_;cases k with
 |false=>exact ite_ff ⟨.bl false,H3,I3,rfl,q3⟩
 |true=>exact ite_tt (chain_last (c_ (hc pins s3 σ H3 _ I3 q3) λw' s4 ⟨z',H4,I4,r4,q4⟩=>JD pins s4 σ H4 y z' u w' Q I4 r2 r4 q4))
theorem ij(ho:sZ X (compareOp op) r)(JD:sZ X (compareOp YD) r')(ha:PE X a ta)(hb:PE X b tb)(hc:PE X c tc)
  (hm:lastMarks [op,YD] [b,c]=false:=by with_unfolding_all rfl):PT X (.Compare a [op,YD] [b,c] pos) (Dx (P6 r r' ta tb tc)):=by
 intro pins s σ H Q I h;refine isTrue_chain (c_ (ha pins s σ H _ I h) λv s1 ⟨x,H1,I1,r1,q1⟩=>test_link (c_ (hb pins s1 σ H1 _ I1 q1) λu s2 ⟨y,H2,I2,r2,q2⟩=>
  c_ (ho pins s2 σ H2 x y v u _ I2 r1 r2 q2) λd s3 ⟨z,H3,I3,r3,k,e,q3⟩=>?_)) hm
 subst e;cases r3;refine wpAny_truthy_bool ?_;cases k with
 |false=>
  obtain⟨k',e',q'⟩:=q3;cases e';exact ite_ff ⟨H3,I3,q'⟩
 |true=>
  refine ite_tt (test_last (c_ (hc pins s3 σ H3 _ I3 q3) λw' s4 ⟨z',H4,I4,r4,q4⟩=>c_ (JD pins s4 σ H4 y z' u w' _ I4 r2 r4 q4) λd' s5 ⟨z2,H5,I5,r5,k2,e2,q5⟩=>?_));subst e2;cases r5;exact wpAny_truthy_bool ⟨H5,I5,q5⟩
theorem wo:(sizeLine:Nat)<2 ^ 63:=by rw[sizeLine_eq];decide
theorem nu:sZ X (binaryOp .Add) (λx y H Q=>∃i j,x= .str i/\y= .str j/\i.length+j.length<=sizeLine/\Q (.str (i++j)) H):=by
 intro pins s σ H x y v u Q I rx ry h;obtain⟨i,j,rfl,rfl,hz,q⟩:=h;obtain⟨t,rfl⟩:=rx;obtain⟨t',rfl⟩:=ry;exact add_str (λt' tk=>⟨.str (i++j),H,I.tok _,⟨_,rfl⟩,q⟩) hz
theorem vals1(r:Vals [x] us):∃u,us=[u]/\RelV x u:=by
 cases r with
 |cons r1 r2=>cases r2;exact⟨_,rfl,r1⟩
theorem vals2(r:Vals [x,y] us):∃u w',us=[u,w']/\RelV x u/\RelV y w':=by
 cases r with
 |cons r1 r2=>
  cases r2 with
  |cons r3 r4=>cases r4;exact⟨_,_,rfl,r1,r3⟩
theorem OX(hc:X.calm=true):vp X (.builtin "max") (λxs H Q=>∃i j,xs=[.int i,.int j]/\Q (.int (if j>i then j else i)) H):=by
 intro pins s σ H xs us Q I r h;obtain⟨i,j,rfl,q⟩:=h;obtain⟨u,w',rfl,⟨t,rfl⟩,⟨t',rfl⟩⟩:=vals2 r;refine max_two_ints (I.ok.hd hc) λh' tk k=>⟨_,H,I.kept k,?_,q⟩
 by_cases hj:j>i
 ·rw[ai hj,ai hj];exact⟨_,rfl⟩
 ·rw[ah hj,ah hj];exact⟨_,rfl⟩
theorem OW(hc:X.calm=true):vp X (.builtin "min") (λxs H Q=>∃i j,xs=[.int i,.int j]/\Q (.int (if j<i then j else i)) H):=by
 intro pins s σ H xs us Q I r h;obtain⟨i,j,rfl,q⟩:=h;obtain⟨u,w',rfl,⟨t,rfl⟩,⟨t',rfl⟩⟩:=vals2 r;refine min_two_ints (I.ok.hd hc) λh' tk k=>⟨_,H,I.kept k,?_,q⟩
 by_cases hj:j<i
 ·rw[ai hj,ai hj];exact⟨_,rfl⟩
 ·rw[ah hj,ah hj];exact⟨_,rfl⟩
theorem Jm:vp X (.builtin "ord") (λxs H Q=>∃x,xs=[.str x]/\x.length=1/\Q (.int (x.cps.getD 0 0:Nat)) H):=by
 intro pins s σ H xs us Q I r h;obtain⟨x,rfl,hz,q⟩:=h;obtain⟨u,rfl,t,rfl⟩:=vals1 r;exact ord_of_one hz ⟨.int _,H,I.tok _,⟨_,rfl⟩,q⟩
end
end L2
namespace L2
open PySem PySem.Spec PyProof.Rows
structure Lz(h:Heap)(x dx C:Addr)(mA:Str->Option Value):Prop where
 obj:h.get? x=some (PySem.W.instObj C dx)
 ns:h.Ns1 dx mA
 ne:dx≠x
theorem NX{h:Heap}(n:h.Ns1 dx mA):∃od,h.get? dx=some od/\∀name,PySem.W.lookIn name od=some (mA name):=by
 obtain⟨o,es,ep,ho,hd,hk,_,hm⟩:=n;refine⟨o,ho,λname=>?_⟩;have e:=hm name;unfold nsFind findBy at e;rw[<-Array.find?_toList]at e;unfold PySem.W.lookIn;rw[hd];dsimp only;split
 ·rename_i y q;rw[q]at e;exact congrArg some e
 ·rename_i q;rw[q]at e;have a:es.toList.any (·.refKey)=false:=by
   rw[List.any_eq_false];intro y hy;obtain⟨z,t,abV⟩:=hk y (Array.mem_toList_iff.mp hy);simp[DictEntry.refKey,abV]
  have a':¬es.toList.any (·.refKey)=true:=by rw[a];exact az
  rw[ah a'];exact congrArg some e
theorem Lz.look(I:Lz h x dx C mA):∃od,PySem.W.InstAt h x (PySem.W.instObj C dx) C (some od)/\∀name,PySem.W.lookIn name od=some (mA name):=
 let ⟨od,ho,hl⟩:=NX I.ns
 ⟨od,⟨I.obj,rfl,rfl,ho⟩,hl⟩
section
variable {prog:Program} {w:World} {A:Around} {E:Value->Shared->Prop} {s:Shared} {K:PySem.W.Frag} {x dx C f:Addr} {mA:Str->Option Value} {name:Str} {v:Value}
theorem get_map{Q:Value->Shared->Prop}(X:K.In s.heap)(I:Lz s.heap x dx C mA)(hg:PySem.W.plainGet K C name=true)(hh:PySem.W.hasDictIn K C=true)
  (ha:PySem.W.findIn K (.ref C) name=some none) (hv:mA name=some v) (hv':PySem.W.handedIn v=true) (h:Q v {s with toks:=s.toks+1}):
  wpAny (model prog w) A (getAttr (.ref x) name expr) Q E s:=by
 obtain⟨od,J,hl⟩:=I.look;exact PySem.W.get_value X J (PySem.W.plainGet_of hg).1 (PySem.W.findObj_own hh ha rfl (by rw[hl,hv])) hv' h
theorem RE{Q:Value×List Value->Shared->Prop}(X:K.In s.heap)(I:Lz s.heap x dx C mA)(hg:PySem.W.plainGet K C name=true)
  (hf:PySem.W.findIn K (.ref C) name=some (some (.ref f))) (ht:PySem.W.isFn K (.ref f)=true) (hv:mA name=none) (h:Q (.ref f,[.ref x]) s):
  wpAny (model prog w) A (getMethod (.ref x) name pl) Q E s:=by
 obtain⟨od,J,hl⟩:=I.look;exact PySem.W.method_fn X J (PySem.W.plainGet_of hg).1 (PySem.W.plainGet_of hg).2 hf (beq_iff_eq.mp ht) (by show(PySem.W.lookIn name od).map (·.isSome)=some false;rw[hl,hv];rfl) h
theorem S8{Q:Unit->Shared->Prop}(X:K.In s.heap)(I:Lz s.heap x dx C mA)
  (hs:PySem.W.findIn K (.ref C) "__setattr__"=some (some (.builtin "object.__setattr__"))) (hp:PySem.W.plainOver K C=true) (ht:PySem.W.takerIn K C name=some none) (hh:PySem.W.hasDictIn K C=true)
  (hw:PySem.Within mA ns) (hsz:ns.length<=sizeLine)
  (h:∀h',Lz h' x dx C (λy=>if y=name then some v else mA y)->Heap.SameBut dx s.heap h'->Q () {s with heap:=h',toks:=s.toks+2}):
  wpAny (model prog w) A (setAttr (.ref x) name v) Q E s:=by
 obtain⟨od,J,hl⟩:=I.look;refine PySem.W.set_plain X J hs (PySem.W.osa_open (s:={s with toks:=s.toks+1}) (r:=none) X J hp ht λb=>?_);obtain⟨cd,hc,hd'⟩:=PySem.W.any_some hh;have hx:s.heap.get? x=some ⟨.ref C,some dx,.plain, #[]⟩:=I.obj;refine wpAny_bind (wpAny_pure (wpAny_bind (wpAny_bind (wpAny_loadPart hx (wpAny_bind (PySem.W.Looks.here (s:={s with toks:=s.toks+1}) (PySem.W.looks_clsIn X hc) ?_))))));rw[hd'];refine wpAny_pure (a:=some dx) (wpAny_bind (wpAny_pure (wpAny_bind ?_)));refine wpAny_nsSet1 (s:={s with toks:=s.toks+1}) I.ns λh' hn2 Y7=>?_
 obtain⟨oD,esD,epD,hoD,hdD,hcD⟩:=hn2.count (PySem.Within.cons name v hw);refine wpAny_bind (wpAny_lookBehind hoD (by rw[hdD];exact pastItsLine_dict (a8 hcD (by rw[di];omega))) ?_);exact wpAny_pure (h _ ⟨(Y7.2 _ (Ne.symm I.ne)).trans I.obj,hn2,I.ne⟩ Y7)
theorem Rc{R:Result->Shared->Prop}(X:K.In s.heap)(hm:PySem.W.makesIn K C=true)
  (hi:PySem.W.findIn K (.ref C) "__init__"=some (some (.ref f))) (hf:PySem.W.typeIn K (.ref f)=some (.type "function"))
  (h:codeAny (model prog w) (A.under (.builtin "type.__call__" ⟨.ref C::vs,kw⟩)) (.call (.ref f) ⟨.ref (s.heap.objs.size+1)::vs,kw⟩) (PySem.W.InitBack (s.heap.objs.size+1) R)
   {s with heap:=(s.heap.push PySem.W.emptyDict).push (PySem.W.instObj C s.heap.objs.size)}):
  codeAny (model prog w) A (.call (.ref C) ⟨vs,kw⟩) R s:=by
 obtain⟨hh,g,d,t,os⟩:=s;exact PySem.W.make_core (PySem.W.makes_of X hm) (PySem.W.looks_findIn X hi) (λself=>PySem.W.bind_fn X self hf) (.inl rfl) h
end
def bP(f:Str)(v:V):List (Str×V)->List (Str×V)
 |[]=>[(f,v)]
 |(g,x)::r=>if g=f then(g,v)::r else(g,x)::bP f v r
theorem xD(f g:Str)(v:V):∀fs:List (Str×V),(bP f v fs).lookup g=if g=f then some v else fs.lookup g
 |[]=>by
  show List.lookup g [(f,v)]=_;by_cases h:g=f
  ·have hb:(g==f)=true:=beq_iff_eq.mpr h;simp only [List.lookup,hb,ai h]
  ·have hb:(g==f)=false:=beq_eq_false_iff_ne.mpr h;simp only [List.lookup,hb,ah h]
 |(k,x)::r=>by
  have ih:=xD f g v r;rw[show bP f v ((k,x)::r)=(if k=f then(k,v)::r else(k,x)::bP f v r)from rfl];by_cases hk:k=f
  ·rw[ai hk];by_cases h:g=k
   ·have hb:(g==k)=true:=beq_iff_eq.mpr h;simp only [List.lookup,hb,ai (h.trans hk)]
   ·have hb:(g==k)=false:=beq_eq_false_iff_ne.mpr h;simp only [List.lookup,hb,ah (λe:g=f=>h (e.trans hk.symm))]
  ·rw[ah hk];by_cases h:g=k
   ·have hb:(g==k)=true:=beq_iff_eq.mpr h;simp only [List.lookup,hb,ah (λe:g=f=>hk (h.symm.trans e))]
   ·have hb:(g==k)=false:=beq_eq_false_iff_ne.mpr h;simp only [List.lookup,hb];exact ih
theorem wz(f:Str)(v:V):∀fs:List (Str×V),f∈(bP f v fs).map (·.1)/\∀g,g∈fs.map (·.1)->g∈(bP f v fs).map (·.1)
 |[]=>⟨by simp[bP],λg h=>by simp at h⟩
 |(k,x)::r=>by
  obtain⟨i1,i2⟩:=wz f v r;rw[show bP f v ((k,x)::r)=(if k=f then(k,v)::r else(k,x)::bP f v r)from rfl];by_cases hk:k=f
  ·rw[ai hk];subst hk;exact⟨by simp,λg h=>by simpa using h⟩
  ·rw[ah hk];refine⟨?_,λg h=>?_⟩
   ·rw[cz];exact aS _ i1
   ·rw[cz]at h ⊢;rcases List.mem_cons.mp h with e|e
    ·exact List.mem_cons.mpr (.inl e)
    ·exact aS _ (i2 g e)
theorem xF(f:Str)(v:V):∀fs:List (Str×V),(bP f v fs).length<=fs.length+1
 |[]=>by simp[bP]
 |(k,x)::r=>by
  have ih:=xF f v r;rw[show bP f v ((k,x)::r)=(if k=f then(k,v)::r else(k,x)::bP f v r)from rfl];by_cases hk:k=f
  ·rw[ai hk,di,di];omega
  ·rw[ah hk,di,di];omega
theorem oP.some_of(r:oP (some v) o):∃u,o=some u/\RelV v u:=by
 cases o with
 |none=>exact(show False from r).elim
 |some u=>exact⟨u,rfl,r⟩
theorem oP.none_of(r:oP none o):o=none:=by
 cases o with
 |none=>rfl
 |some u=>exact(show False from r).elim
theorem Of(r:RelV v u):PySem.W.handedIn u=true:=by
 cases v with
 |dt=>cases (show u=Value.none from r);rfl
 |bl b=>cases (show u=Value.bool b from r);rfl
 |int i=>obtain⟨t,e⟩:=(show ∃t,u=Value.int i t from r);cases e;rfl
 |str x=>obtain⟨t,e⟩:=(show ∃t,u=Value.str x t from r);cases e;rfl
 |GC b=>obtain⟨t,e⟩:=(show ∃t,u=Value.bytes b t from r);cases e;rfl
 |RI b=>obtain⟨t,e⟩:=(show ∃t,u=Value.float b t from r);cases e;rfl
 |ref a=>cases (show u=Value.ref a from r);rfl
 |ty n=>cases (show u=Value.type n from r);rfl
section
variable {P:Program} {w:World} {H H':Hp} {h h':Heap} {a C dx:Addr} {fs fs':List (Str×V)}
theorem FX(cM:mm P w H h)(e:H a=some (.ins C dx fs)):∃mA,Lz h a dx C mA/\(∀f,oP (fs.lookup f) (mA f))/\PySem.Within mA (fs.map (·.1))/\fs.length<=1000/\H dx=some (.own a):=by
 obtain⟨d,z,ne,ob,mA,n,r,q⟩:=(show dO P w H h a (.ins C dx fs)from cM a _ e);exact⟨mA,⟨ob,n,ne⟩,r,q,z,d⟩
end
structure G0(K:PySem.W.Frag)(C:Addr):Prop where
 pg:PySem.W.plainGet K C Str.empty=true
 hd:PySem.W.hasDictIn K C=true
 po:PySem.W.plainOver K C=true
 sa:PySem.W.findIn K (.ref C) "__setattr__"=some (some (.builtin "object.__setattr__"))
theorem G0.get{K:PySem.W.Frag}(c:G0 K C)(f:Str):PySem.W.plainGet K C f=true:=c.pg
def b_(K:PySem.W.Frag)(C:Addr)(f:Str):Prop:=PySem.W.findIn K (.ref C) f=some none
theorem b_.XM{K:PySem.W.Frag}(n:b_ K C f):PySem.W.takerIn K C f=some none:=by
 unfold PySem.W.takerIn;rw[show PySem.W.findIn K (.ref C) f=some none from n];rfl
structure Meth(K:PySem.W.Frag)(C:Addr)(m:Str)(f:Addr):Prop where
 at_:PySem.W.findIn K (.ref C) m=some (some (.ref f))
 fn:PySem.W.isFn K (.ref f)=true
 kp:PySem.W.keepIn K (.ref f)=true
section
variable {X:Cx} {pins:List (Addr×Obj)} {σ:St} {H:Hp} {s:Shared} {a C dx:Addr} {fs:List (Str×V)} {f:Str} {v:V} {A:Around} {E:Value->Shared->Prop}
theorem AY{Q:Value->Shared->Prop}(I:Inv X pins σ H s)(e:H a=some (.ins C dx fs))(c:G0 X.K C)(n:b_ X.K C f)(l:fs.lookup f=some v)
  (h:∀u s',Inv X pins σ H s'->RelV v u->Q u s'):wpAny (model X.prog X.w) A (getAttr (.ref a) f b) Q E s:=by
 obtain⟨mA,O,r,_,_,_⟩:=FX I.cM e;obtain⟨u,hu,ru⟩:=oP.some_of (v:=v) (o:=mA f) (by rw[<-l];exact r f);exact get_map I.yM O (c.get f) c.hd n hu (Of ru) (h u _ (I.tok _) ru)
theorem AX{Q:Value×List Value->Shared->Prop}(I:Inv X pins σ H s)(e:H a=some (.ins C dx fs))(c:G0 X.K C)(k:Meth X.K C m g)(l:fs.lookup m=none)
  (h:Q (.ref g,[.ref a]) s):wpAny (model X.prog X.w) A (getMethod (.ref a) m pl) Q E s:=by
 obtain⟨mA,O,r,_,_,_⟩:=FX I.cM e;have hn:mA m=none:=oP.none_of (by rw[<-l];exact r m);exact RE I.yM O (c.get m) k.at_ k.fn hn h
theorem zu{Q:Unit->Shared->Prop}(I:Inv X pins σ H s)(e:H a=some (.ins C dx fs))(c:G0 X.K C)(n:b_ X.K C f)(hl:fs.length<1000)(ry:RelV y u)
  (h:∀s',Inv X pins σ (upd H a (.ins C dx (bP f y fs))) s'->Q () s'):wpAny (model X.prog X.w) A (setAttr (.ref a) f u) Q E s:=by
 obtain⟨mA,O,r,wi,_,ho⟩:=FX I.cM e;have hz:(fs.map (·.1)).length<=sizeLine:=by rw[aH,sizeLine_eq];omega
 refine S8 I.yM O c.sa c.po n.XM c.hd wi hz λh' O' sb=>h _ ?_
 have hd:∃o,h'.get? dx=some o:=let ⟨o,_,_,e',_⟩:=O'.ns;⟨o,e'⟩;refine I.write (x:=a) (e:=dx) (by rw[e];exact True.intro) (.inr ho) (λb q hb z=>(sb.2 b hb).trans z) hd ?_;refine⟨by rw[ao O.ne];exact ho,?_,O.ne,O'.obj,_,O'.ns,λg=>?_,λg hg=>?_⟩
 ·have:=xF f y fs;omega
 ·show oP ((bP f y fs).lookup g) (if g=f then some u else mA g);rw[xD];by_cases q:g=f
  ·rw[ai q,ai q];exact ry
  ·rw[ah q,ah q];exact r g
 ·by_cases q:g=f
  ·rw[q];exact(wz f y fs).1
  ·refine(wz f y fs).2 g (wi g λz=>hg ?_);show(if g=f then some u else mA g)=none;rw[ah q];exact z
theorem Inv.made(I:Inv X pins σ H s):Inv X pins σ (upd (upd H s.heap.objs.size (.own (s.heap.objs.size+1))) (s.heap.objs.size+1) (.ins C s.heap.objs.size []))
  {s with heap:=(s.heap.push PySem.W.emptyDict).push (PySem.W.instObj C s.heap.objs.size)}:=by
 have e1:(s.heap.push PySem.W.emptyDict).get? s.heap.objs.size=some PySem.W.emptyDict:=Heap.get?_push_size s.heap rfl;have e2:((s.heap.push PySem.W.emptyDict).push (PySem.W.instObj C s.heap.objs.size)).get? (s.heap.objs.size+1)=some (PySem.W.instObj C s.heap.objs.size):=by
  have:=Heap.get?_push_size (s.heap.push PySem.W.emptyDict) (o:=PySem.W.instObj C s.heap.objs.size) rfl
  rwa [Heap.size_push]at this
 have e3:(s.heap.push PySem.W.emptyDict).Ns s.heap.objs.size (λ_=>none):=⟨PySem.W.emptyDict, #[],_,e1,rfl,(λe he=>absurd he (by simp)),λ_=>rfl⟩;have I1:=I.laid (a:=s.heap.objs.size) (o:=.own (s.heap.objs.size+1)) (h':=s.heap.push PySem.W.emptyDict) (t':=s.toks) (λb u q=>Heap.get?_push_of_some _ q) (aM _) ⟨_,e1⟩;refine I1.laid (a:=s.heap.objs.size+1) (o:=.ins C s.heap.objs.size []) (t':=s.toks) (λb u q=>Heap.get?_push_of_some _ q) (yz (Heap.size_push _ _)) ?_;have ne:s.heap.objs.size≠s.heap.objs.size+1:=Nat.ne_of_lt (Nat.lt_succ_self _);refine⟨by rw[ao ne,af],bw _,ne,e2,λ_=>none,(Heap.Ns1.of_empty e3).at λo q=>Heap.get?_push_of_some _ q,λ_=>True.intro,λy hy=>absurd rfl hy⟩
theorem MN{Q:Value->Shared->Prop}(hb:attributeBase e f env (eval e env)=eval e env)
  (h:wpAny (model prog w) A (eval e env) (λo s₁=>wpAny (model prog w) A (getAttr o f true) Q E s₁) E s):wpAny (model prog w) A (eval (.Attribute e f pos) env) Q E s:=
 Attribute_any_ h (by rw[arm_eval_Attribute,hb])
end
inductive Z4(K:PySem.W.Frag)(f:Str)(Q:VK)(x:V)(H:Hp):Prop
 |mk (a C dx:Addr) (fs:List (Str×V)) (v:V) (e1:x= .ref a) (e2:H a=some (.ins C dx fs)) (e3:G0 K C) (e4:b_ K C f) (e5:fs.lookup f=some v) (q:Q v H):Z4 K f Q x H
def zh(K:PySem.W.Frag)(ta:TE)(f:Str):TE:=λσ H Q=>ta σ H (Z4 K f Q)
inductive ISF(K:PySem.W.Frag)(f:Str)(D:Ends)(σ:St)(y x:V)(H:Hp):Prop
 |mk (a C dx:Addr) (fs:List (Str×V)) (e:x= .ref a) (g:H a=some (.ins C dx fs)) (h:G0 K C) (i:b_ K C f) (j:fs.length<1000) (q:D.nx σ (upd H a (.ins C dx (bP f y fs)))):ISF K f D σ y x H
def abn(K:PySem.W.Frag)(ta tv:TE)(f:Str):TS:=λD σ H=>tv σ H λy H1=>ta σ H1 (ISF K f D σ y)
def Xe(X:Cx)(op:Operator)(rd:V->V->Hp->VK->Prop):Prop:=
 ∀(pins:List (Addr×Obj)) (s:Shared) (σ:St) (H:Hp) (x y:V) (u v:Value) (Q:VK),Inv X pins σ H s->RelV x u->RelV y v->rd x y H Q->wpAny (model X.prog X.w) X.A (inplaceOp op u v) (EP X pins σ Q) X.xe s
inductive IFB(f:Str)(D:Ends)(σ:St)(a C:Addr)(z:V)(H:Hp):Prop
 |mk (dx:Addr) (fs:List (Str×V)) (e:H a=some (.ins C dx fs)) (g:fs.length<1000) (q:D.nx σ (upd H a (.ins C dx (bP f z fs)))):IFB f D σ a C z H
inductive IFA(K:PySem.W.Frag)(tv:TE)(rd:V->V->Hp->VK->Prop)(f:Str)(D:Ends)(σ:St)(x:V)(H:Hp):Prop
 |mk (a C dx:Addr) (fs:List (Str×V)) (v:V) (e:x= .ref a) (g:H a=some (.ins C dx fs)) (h:G0 K C) (i:b_ K C f) (j:fs.lookup f=some v) (q:tv σ H λy H2=>rd v y H2 (IFB f D σ a C)):IFA K tv rd f D σ x H
def Tb(K:PySem.W.Frag)(ta tv:TE)(rd:V->V->Hp->VK->Prop)(f:Str):TS:=λD σ H=>ta σ H (IFA K tv rd f D σ)
section
variable {X:Cx} {o e value:Expr} {f:Str} {pos pos' SW:Pos} {ta tv:TE}
theorem aD(he:PE X e ta)(hb:attributeBase e f X.env (eval e X.env)=eval e X.env):PE X (.Attribute e f pos) (zh X.K ta f):=by
 intro pins s σ H Q I h;refine MN hb (c_ (he pins s σ H _ I h) λu s1 ⟨x,H1,I1,rx,a,C,dx,fs,v,ex,ea,c,n,l,q⟩=>?_);subst ex;obtain rfl:u=Value.ref a:=rx;exact AY I1 ea c n l λu' s2 I2 ru=>⟨v,H1,I2,ru,q⟩
theorem cv(ha:PE X o ta)(hv:PE X value tv)(hs:swapsWith value (some (.Attribute o f pos')) pos.line X.env=pure false):PS X (.Assign [.Attribute o f pos'] value pos) (abn X.K ta tv f):=by
 intro pins s σ H D I h;refine plainObj_wpAny_Assign_Attribute (c_ (hv pins s σ H _ I h) λu s1 ⟨y,H1,I1,ry,q⟩=>c_ (ha pins s1 σ H1 _ I1 q) λov s2 ⟨x,H2,I2,rx,a,C,dx,fs,ex,ea,c,n,l,q2⟩=>?_) hs;subst ex;obtain rfl:ov=Value.ref a:=rx;exact zu I2 ea c n l ry λs3 I3=>⟨σ,_,I3,q2⟩
theorem gT{rd:V->V->Hp->VK->Prop}(ha:PE X o ta)(hv:PE X value tv)(hop:Xe X op rd):PS X (.AugAssign (.Attribute o f SW) op value pos) (Tb X.K ta tv rd f):=by
 intro pins s σ H D I h;refine wpAny_AugAssign_AttributeAny (c_ (ha pins s σ H _ I h) λov s1 ⟨x,H1,I1,rx,a,C,dx,fs,v,ex,ea,c,n,l,q⟩=>?_);subst ex;obtain rfl:ov=Value.ref a:=rx;refine AY I1 ea c n l λu s2 I2 ru=>c_ (hv pins s2 σ H1 _ I2 q) λw3 s3 ⟨y,H2,I3,ry,q3⟩=>c_ (hop pins s3 σ H2 v y u w3 _ I3 ru ry q3) λw4 s4 ⟨z,H3,I4,rz,XG,fs',ea',l',q4⟩=>?_
 exact zu I4 ea' c n l' rz λs5 I5=>⟨σ,_,I5,q4⟩
inductive Ys(x y:V)(H:Hp)(Q:VK):Prop
 |mk (i j:Int) (e:x= .int i) (f:y= .int j) (q:Q (.int (i+j)) H):Ys x y H Q
inductive Yp(x y:V)(H:Hp)(Q:VK):Prop
 |mk (i j:Int) (e:x= .int i) (f:y= .int j) (q:Q (.int (i - j)) H):Yp x y H Q
theorem wC:Xe X .Add Ys:=by
 rintro pins s σ H x y u v Q I rx ry ⟨i,j,rfl,rfl,q⟩
 obtain⟨t,rfl⟩:=(show ∃t,u=Value.int i t from rx);obtain⟨t',rfl⟩:=(show ∃t',v=Value.int j t' from ry);exact PyProof.Rows.iadd_int ⟨.int (i+j),H,I.tok _,⟨_,rfl⟩,q⟩
theorem Rm:Xe X .Sub Yp:=by
 rintro pins s σ H x y u v Q I rx ry ⟨i,j,rfl,rfl,q⟩
 obtain⟨t,rfl⟩:=(show ∃t,u=Value.int i t from rx);obtain⟨t',rfl⟩:=(show ∃t',v=Value.int j t' from ry);exact PyProof.Rows.isub_int ⟨.int (i - j),H,I.tok _,⟨_,rfl⟩,q⟩
end
section
variable {X:Cx} {pins:List (Addr×Obj)} {σ:St} {H:Hp} {s:Shared} {A:Around} {E:Value->Shared->Prop} {Q:Value->Shared->Prop} {c:Value} {b:Bool}
end
end L2
namespace L2
open PySem PySem.Spec PyProof.Rows
structure dR(k:Nat)(A:Around):Prop where
 hd:A.handled=none
 dp:A.depth+3*k+5<recursionLimit
 un:A.units+16*k+200<cLine
theorem dR.mono(r:dR k A)(h:j<=k):dR j A:=⟨r.hd,by have:=r.dp;omega,by have:=r.un;omega⟩
theorem dR.deeper(r:dR (k+1) A)(env:Env):dR k (A.deeper env):=
 ⟨r.hd,by have:=r.dp;show A.depth+1+3*k+5<_;omega,by have:=r.un;show A.units+3+16*k+200<_;omega⟩
theorem AB{A:Around}:(A.under (.builtin "type.__call__" ⟨.ref C::us,kw⟩)).depth=A.depth+1:=by
 first|rfl|simp[Around.under,Code.weight,Code.isCreation,Code.isGuard,Code.isCaller,Code.frames,Code.isFrame,guardIds]
theorem Ku{A:Around}:(A.under (.builtin "type.__call__" ⟨.ref C::us,kw⟩)).units=A.units+1:=by
 first|rfl|simp[Around.under,Code.cUnits,Code.frames,Code.isFrame]
theorem dR.make(r:dR (k+1) A)(C:Addr)(us:List Value)(kw:List (Str×Value)):dR k (A.under (.builtin "type.__call__" ⟨.ref C::us,kw⟩)):=
 ⟨r.hd,by have:=r.dp;rw[AB];omega,by have:=r.un;rw[Ku];omega⟩
theorem dR.depth(r:dR k A):A.depth<recursionLimit:=by have:=r.dp;omega
theorem dR.units(r:dR k A):A.units+64<cLine:=by have:=r.un;omega
def gj:TA:=λ_ H Q=>Q [] H
def d5(ta:TE)(tr:TA):TA:=λσ H Q=>ta σ H λx H1=>tr σ H1 λxs H2=>Q (x::xs) H2
section
variable {X:Cx} {e:Expr} {es:List Expr} {te:TE} {t:TA} {pos:Pos}
theorem aj:PA X [] gj:=λ_ _ _ _ H Q I h=>Calls.spliced_nil ⟨[],H,I,.nil,h⟩
theorem aa(ha:PE X e te)(hr:PA X es t)(hs:starEach (e::es) X.env=(false,eval e X.env)::starEach es X.env:=by rfl):PA X (e::es) (d5 te t):=by
 intro pos pins s σ H Q I h;rw[hs];show wpAny _ _ (spliced ((false,eval e X.env)::backTo pos (starEach es X.env))) _ _ s;refine Calls.spliced_cons (c_ (ha pins s σ H _ I h) λu s1 ⟨x,H1,I1,r1,q1⟩=>?_);exact c_ (hr pos pins s1 σ H1 _ I1 q1) λus s2 ⟨xs,H2,I2,r2,q2⟩=>⟨x::xs,H2,I2,.cons r1 r2,q2⟩
def Vp(t:TA):TE:=λσ H Q=>t σ H λxs H1=>xs.length<=sizeLine/\∀p,H1 p=none->Q (.ref p) (upd H1 p (.tup xs))
def XS(t:TA):TE:=λσ H Q=>t σ H λxs H1=>xs.length<=sizeLine/\∀p,H1 p=none->Q (.ref p) (upd H1 p (.lst xs))
theorem jn{x1}(h:PA X es t):PE X (.Tuple es x1 pos) (Vp t):=by
 intro pins s σ H Q I hq;refine wpAny_Tuple_spliced (c_ (h pos pins s σ H _ I hq) λus s1 ⟨xs,H1,I1,r,z,q⟩=>⟨by rw[<-r.length];exact z,?_⟩);have hf:H1 s1.heap.objs.size=none:=I1.cM.fresh (aM _);refine⟨.ref s1.heap.objs.size,upd H1 s1.heap.objs.size (.tup xs),I1.laid (t':=s1.toks) (λb u e=>Heap.get?_push_of_some _ e) (aM _) ?_,rfl,q _ hf⟩;exact⟨z,us,r,⟨_,Heap.get?_push_size _ rfl,rfl,_,rfl⟩⟩
theorem aY(h:PA X es t):PE X (.List es pos) (XS t):=by
 intro pins s σ H Q I hq;refine wpAny_List_spliced (c_ (h pos pins s σ H _ I hq) λus s1 ⟨xs,H1,I1,r,z,q⟩=>⟨by rw[<-r.length];exact z,?_⟩);have hf:H1 s1.heap.objs.size=none:=I1.cM.fresh (aM _);refine⟨.ref s1.heap.objs.size,upd H1 s1.heap.objs.size (.lst xs),I1.laid (t':=s1.toks) (λb u e=>Heap.get?_push_of_some _ e) (aM _) ?_,rfl,q _ hf⟩;exact⟨z,us,0,r,Heap.get?_push_size _ rfl⟩
end
abbrev Sp:=List V->Hp->VK->XK->Prop
abbrev JI:=List Env->Hp->Shared->XK->Value->Shared->Prop
structure LC(P:Program)(w:World)(K:PySem.W.Frag)(mg:Str->Option Value)(base:Heap)(A:Around)(outer:List Env)(s:Shared)(H:Hp):Prop where
 frames:A.frames=some outer
 mod:Mod K mg base
 bs:∀b o,base.get? b=some o->s.heap.get? b=some o/\H b=none
 R8:base.objs.size<=s.heap.objs.size
 oM:s.heap.FunFrames base outer
 Uh:∀b∈oN outer,H b=none
 cM:mm P w H s.heap
 bare:AllBare s.gens
def CE(outer:List Env)(P:Program)(w:World)(H:Hp)(s:Shared)(Q:VK)(u:Value)(s':Shared):Prop:=
 ∃v H',s'.os=s.os/\AllBare s'.gens/\Un (oN outer) [] H H' s.heap s'.heap/\mm P w H' s'.heap/\RelV v u/\Q v H'
def CR(CX:JI)(outer:List Env)(P:Program)(w:World)(H:Hp)(s:Shared)(Q:VK)(E:XK)(r:Result)(s':Shared):Prop:=
 match r with
 | .ok (.ret u)=>CE outer P w H s Q u s'
 | .ok _=>False
 | .error e=>CX outer H s E e s'
structure aP(P:Program)(w:World)(K:PySem.W.Frag)(mg:Str->Option Value)(base:Heap)(CX:JI)(k:Nat)(f:Addr)(fd:FuncData)(ps:List Str)(sp:Sp):Prop where
 len:∀vs H Q E,sp vs H Q E->vs.length=ps.length
 run:∀(A:Around) (outer:List Env) (s:Shared) (H:Hp) (args:Args) (us:List Value) (vs:List V) (Q:VK) (E:XK),dR k A->LC P w K mg base A outer s H->BindsTo s fd args (ps.zip us)->Vals vs us->sp vs H Q E->
  codeAny (model P w) A (.call (.ref f) args) (CR CX outer P w H s Q E) s
theorem aP.mono{K:PySem.W.Frag}(F:aP P w K mg base CX j f fd ps sp)(h:j<=k):
  aP P w K mg base CX k f fd ps sp:=⟨F.len,λA outer s H args us vs Q E hr=>F.run A outer s H args us vs Q E (hr.mono h)⟩
theorem LC.make{K:PySem.W.Frag}(e:LC P w K mg base A outer s H)(C:Addr)(us:List Value)(kw:List (Str×Value)):
  LC P w K mg base (A.under (.builtin "type.__call__" ⟨.ref C::us,kw⟩)) outer s H:=⟨by first|exact e.frames|(simpa [Around.under,Code.envs,Code.isFrame,pushEnvs]using e.frames),e.mod,e.bs,e.R8,e.oM,e.Uh,e.cM,e.bare⟩
section
variable {X:Cx} {pins:List (Addr×Obj)} {σ:St} {H:Hp} {s s':Shared}
theorem Inv.ZL(I:Inv X pins σ H s):LC X.prog X.w X.K X.mg X.base X.A X.stack s H:=
 ⟨I.ok.frames,I.ok.mod,I.bs,a8 I.ok.R8 I.sz,I.stack,I.qt,I.cM,I.bare⟩
theorem Inv.after(I:Inv X pins σ H s)(h:CE X.stack X.prog X.w H s Q u s'):EP X pins σ Q u s':=by
 obtain⟨v,H',os,bare,un,cM,r,q⟩:=h;obtain⟨hh,g,d,t,os'⟩:=s';obtain rfl:os'=s.os:=os;exact⟨v,H',I.call (h':=hh) (g':=g) (d':=d) (t':=t) (ch:=[]) un cM bare (λb z=>absurd z (by simp)),r,q⟩
end
def zi(sp:Sp)(dvs:List V)(E:XK)(t:TA):TE:=λσ H Q=>t σ H λvs H1=>sp (vs++dvs) H1 Q E
inductive IMt(C:Addr)(m:Str)(sp:Sp)(dvs:List V)(E:XK)(t:TA)(σ:St)(Q:VK)(x:V)(H:Hp):Prop
 |mk (a dx:Addr) (fs:List (Str×V)) (e:x= .ref a) (f:H a=some (.ins C dx fs)) (g:fs.lookup m=none) (q:t σ H λvs H2=>sp (x::(vs++dvs)) H2 Q E):IMt C m sp dvs E t σ Q x H
def oX(C:Addr)(m:Str)(sp:Sp)(dvs:List V)(E:XK)(ta:TE)(t:TA):TE:=λσ H Q=>ta σ H (IMt C m sp dvs E t σ Q)
def zg(C:Addr)(sp:Sp)(dvs:List V)(E:XK)(t:TA):TE:=λσ H Q=>t σ H λvs H1=>∀x dx,H1 x=none->H1 dx=none->dx≠x->
 sp (.ref x::(vs++dvs)) (upd (upd H1 dx (.own x)) x (.ins C dx [])) (λv H2=>v= .dt/\Q (.ref x) H2) E
def Binds(K:PySem.W.Frag)(fd:FuncData)(ps:List Str)(ds:List Value):Prop:=
 ∀(s:Shared) (us:List Value),K.In s.heap->(us++ds).length=ps.length->BindsTo s fd ⟨us,[]⟩ (ps.zip (us++ds))
theorem Binds.all{K:PySem.W.Frag}{ps:List Str}(h:∀us:List Value,us.length=ps.length->bindArgs fd ⟨us,[]⟩=pure (ps.zip us)):Binds K fd ps []:=λs us _ hl=>by
 rw[gW]at hl ⊢;exact .of_eq (h us hl)
def Passes(CX:JI)(X:Cx)(E:XK):Prop:=∀(pins:List (Addr×Obj)) (σ:St) (H:Hp) (s:Shared) (e:Value) (s':Shared),Inv X pins σ H s->CX X.stack H s E e s'->X.xe e s'
section
variable {X:Cx} {CX:JI} {k:Nat} {f C:Addr} {fd:FuncData} {ps:List Str} {sp:Sp} {dvs:List V} {ds:List Value} {E:XK} {x m:Str} {p pos apos:Pos} {e o:Expr} {es:List Expr} {ta:TE} {t:TA}
theorem zP(F:aP X.prog X.w X.K X.mg X.base CX k f fd ps sp)(hr:dR k X.A)(hb:Binds X.K fd ps ds)(hd:Vals dvs ds)(hx:Passes CX X E)
  (I:Inv X pins σ H s) (r:Vals vs us) (h:sp (vs++dvs) H Q E):wpAny (model X.prog X.w) X.A (call (.ref f) us) (EP X pins σ Q) X.xe s:=by
 have r2:Vals (vs++dvs) (us++ds):=r.append hd;have hl:(us++ds).length=ps.length:=by rw[<-r2.length];exact F.len _ _ _ _ h
 refine wpAny_call (codeAny_mono (F.run X.A X.stack s H ⟨us,[]⟩ (us++ds) (vs++dvs) Q E hr I.ZL (hb s us I.yM hl) r2 h) λr s' hq=>?_);cases r with
 |error e=>exact hx pins σ H s e s' I hq
 |ok fl=>
  cases fl with
  |ret u=>exact I.after hq
  |next=>exact False.elim hq
  |brk=>exact False.elim hq
  |cont=>exact False.elim hq
theorem Ts(F:aP X.prog X.w X.K X.mg X.base CX k f fd ps sp)(hr:dR k X.A)(hg:Gl X x)(hm:X.mg x=some (.ref f))(hk:PySem.W.keepIn X.K (.ref f)=true)(hb:Binds X.K fd ps ds)(hd:Vals dvs ds)(hx:Passes CX X E)
  (ha:PA X (e::es) t) (yn:(x==("__debug__":Str))=false:=by decide) (he:starEach (e::es) X.env=(false,eval e X.env)::starEach es X.env:=by rfl) (uT:(backTo pos (starEach es X.env)).any (·.1)=false:=by rfl):
  PE X (.Call (.Name x p) (e::es) [] pos) (zi sp dvs E t):=by
 intro pins s σ H Q I h;refine wpAny_Call_Name_kw (nQ I hg hm ?_ yn);refine PySem.W.callWith_K (h₀:=X.base) I.ok.mod.UU hk (c_ (ha pos pins s σ H _ I h) λus s1 ⟨vs,H1,I1,r,q⟩=>⟨I1.yM,?_⟩) he uT;exact zP F hr hb hd hx I1 r q
theorem QI(F:aP X.prog X.w X.K X.mg X.base CX k f fd ps sp)(hr:dR k X.A)(hg:Gl X x)(hm:X.mg x=some (.ref f))(hk:PySem.W.keepIn X.K (.ref f)=true)(hb:Binds X.K fd ps ds)(hd:Vals dvs ds)(hx:Passes CX X E)
  (yn:(x==("__debug__":Str))=false:=by decide):PE X (.Call (.Name x p) [] [] pos) (zi sp dvs E gj):=by
 intro pins s σ H Q I h;refine wpAny_Call_Name_kw (nQ I hg hm ?_ yn);exact PySem.W.callWith_K0 I.yM hk (zP (us:=[]) F hr hb hd hx I .nil h)
theorem To(he:PE X o ta)(c:G0 X.K C)(hm:Meth X.K C m f)(F:aP X.prog X.w X.K X.mg X.base CX k f fd ps sp)(hr:dR k X.A)(hb:Binds X.K fd ps ds)(hd:Vals dvs ds)(hx:Passes CX X E)(ha:PA X (e::es) t)
  (sI:starEach (e::es) X.env=(false,eval e X.env)::starEach es X.env:=by rfl) (uT:(backTo pos (starEach es X.env)).any (·.1)=false:=by rfl)
  (ht:eval (.Call (.Attribute o m apos) (e::es) [] pos) X.env=(do
   let ov<-eval o X.env
   standAt apos.atName
   let (f,first)<-holding [ov] (getMethod ov m pl)
   callWith pos f first (backTo pos (starEach (e::es) X.env)) (backToKw pos (keywordEach [] X.env))):=by rfl):
  PE X (.Call (.Attribute o m apos) (e::es) [] pos) (oX C m sp dvs E ta t):=by
 intro pins s σ H Q I h;refine PySem.W.methodCall_KW (pl:=pl) (c_ (he pins s σ H _ I h) λu s1 ⟨x,H1,I1,rx,a,dx,fs,ex,ea,l,q⟩=>?_) ht;subst ex;obtain rfl:u=Value.ref a:=rx;refine AX I1 ea c hm l ?_;refine PySem.W.callWith_K (first:=[.ref a]) (h₀:=X.base) I.ok.mod.UU hm.kp (c_ (ha pos pins s1 σ H1 _ I1 q) λus s2 ⟨vs,H2,I2,r,q2⟩=>⟨I2.yM,?_⟩) sI uT;exact zP (us:=.ref a::us) (vs:=.ref a::vs) F hr hb hd hx I2 (.cons rfl r) q2
theorem QD(he:PE X o ta)(c:G0 X.K C)(hm:Meth X.K C m f)(F:aP X.prog X.w X.K X.mg X.base CX k f fd ps sp)(hr:dR k X.A)(hb:Binds X.K fd ps ds)(hd:Vals dvs ds)(hx:Passes CX X E)
  (ht:eval (.Call (.Attribute o m apos) [] [] pos) X.env=(do
   let ov<-eval o X.env
   standAt apos.atName
   let (f,first)<-holding [ov] (getMethod ov m pl)
   callWith pos f first (backTo pos (starEach [] X.env)) (backToKw pos (keywordEach [] X.env))):=by rfl):
  PE X (.Call (.Attribute o m apos) [] [] pos) (oX C m sp dvs E ta gj):=by
 intro pins s σ H Q I h;refine PySem.W.methodCall_KW (pl:=pl) (c_ (he pins s σ H _ I h) λu s1 ⟨x,H1,I1,rx,a,dx,fs,ex,ea,l,q⟩=>?_) ht;subst ex;obtain rfl:u=Value.ref a:=rx;refine AX I1 ea c hm l ?_;exact PySem.W.callWith_K0 (first:=[.ref a]) I1.yM hm.kp (zP (us:=[.ref a]) (vs:=[.ref a]) F hr hb hd hx I1 (.cons rfl .nil) q)
structure Mk(K:PySem.W.Frag)(C f:Addr):Prop where
 makes:PySem.W.makesIn K C=true
 init:PySem.W.findIn K (.ref C) "__init__"=some (some (.ref f))
 fn:PySem.W.isFn K (.ref f)=true
 kp:PySem.W.keepIn K (.ref C)=true
theorem HD{Q:VK}(M:Mk X.K C f)(F:aP X.prog X.w X.K X.mg X.base CX k f fd ps sp)(hr:dR (k+1) X.A)(hb:Binds X.K fd ps ds)(hd:Vals dvs ds)
  (hx:Passes CX X E) (I:Inv X pins σ H s) (r:Vals vs us)
  (h:∀x dx,H x=none->H dx=none->dx≠x->sp (.ref x::(vs++dvs)) (upd (upd H dx (.own x)) x (.ins C dx [])) (λv H2=>v= .dt/\Q (.ref x) H2) E):
  wpAny (model X.prog X.w) X.A (call (.ref C) us) (EP X pins σ Q) X.xe s:=by
 have hq:=h (s.heap.objs.size+1) s.heap.objs.size (I.cM.fresh (Nat.le_succ _)) (I.cM.fresh (aM _)) (Nat.ne_of_lt (Nat.lt_succ_self _));have I2:=Inv.made (C:=C) I;have r2:Vals (V.ref (s.heap.objs.size+1)::(vs++dvs)) (Value.ref (s.heap.objs.size+1)::(us++ds)):=.cons rfl (r.append hd);have hl:(Value.ref (s.heap.objs.size+1)::us++ds).length=ps.length:=by
  have e:=r2.length;rw[F.len _ _ _ _ hq]at e;exact e.symm
 refine wpAny_call (Rc (f:=f) I.yM M.makes M.init (beq_iff_eq.mp M.fn) (codeAny_mono (F.run _ X.stack _ _ ⟨Value.ref (s.heap.objs.size+1)::us,[]⟩ (Value.ref (s.heap.objs.size+1)::(us++ds)) _ _ E (hr.make C us [])
  (I2.ZL.make C us []) (hb _ (Value.ref (s.heap.objs.size+1)::us) I2.yM hl) r2 hq) λr s' N_=>?_))
 cases r with
 |error e=>exact hx pins σ _ _ e s' I2 N_
 |ok fl=>
  cases fl with
  |ret u=>
   obtain⟨v,H',I3,rv,ev,q3⟩:=I2.after N_;subst ev;exact⟨rv,⟨V.ref (s.heap.objs.size+1),H',I3,rfl,q3⟩⟩
  |next=>exact False.elim N_
  |brk=>exact False.elim N_
  |cont=>exact False.elim N_
theorem Tq(M:Mk X.K C f)(F:aP X.prog X.w X.K X.mg X.base CX k f fd ps sp)(hr:dR (k+1) X.A)(hg:Gl X x)(hm:X.mg x=some (.ref C))(hb:Binds X.K fd ps ds)(hd:Vals dvs ds)(hx:Passes CX X E)
  (ha:PA X (e::es) t) (yn:(x==("__debug__":Str))=false:=by decide) (he:starEach (e::es) X.env=(false,eval e X.env)::starEach es X.env:=by rfl) (uT:(backTo pos (starEach es X.env)).any (·.1)=false:=by rfl):
  PE X (.Call (.Name x p) (e::es) [] pos) (zg C sp dvs E t):=by
 intro pins s σ H Q I h;refine wpAny_Call_Name_kw (nQ I hg hm ?_ yn);refine PySem.W.callWith_K (h₀:=X.base) I.ok.mod.UU M.kp (c_ (ha pos pins s σ H _ I h) λus s1 ⟨vs,H1,I1,r,q⟩=>⟨I1.yM,?_⟩) he uT;exact HD M F hr hb hd hx I1 r q
theorem QE(M:Mk X.K C f)(F:aP X.prog X.w X.K X.mg X.base CX k f fd ps sp)(hr:dR (k+1) X.A)(hg:Gl X x)(hm:X.mg x=some (.ref C))(hb:Binds X.K fd ps ds)(hd:Vals dvs ds)(hx:Passes CX X E)
  (yn:(x==("__debug__":Str))=false:=by decide):PE X (.Call (.Name x p) [] [] pos) (zg C sp dvs E gj):=by
 intro pins s σ H Q I h;refine wpAny_Call_Name_kw (nQ I hg hm ?_ yn);exact PySem.W.callWith_K0 I.yM M.kp (HD (us:=[]) M F hr hb hd hx I .nil h)
end
def PK(X:Cx)(YS:List Keyword)(t:TA):Prop:=
 ∀(pos:Pos) (pins:List (Addr×Obj)) (s:Shared) (σ:St) (H:Hp) (Q:List V->Hp->Prop),Inv X pins σ H s->t σ H Q->wpAny (model X.prog X.w) X.A (evalAll ((backToKw pos (keywordEach YS X.env)).map (·.2))) (AP X pins σ Q) X.xe s
section
variable {X:Cx} {CX:JI} {k:Nat} {f C:Addr} {fd:FuncData} {ps ks:List Str} {sp:Sp} {E:XK} {x m:Str} {p pos apos abH:Pos} {e o:Expr} {es:List Expr} {YS:List Keyword} {te ta:TE} {t tk:TA} {nm:Option Str}
theorem VO:PK X [] gj:=λ_ _ _ _ H Q I h=>wpAny_evalAll_nil ⟨[],H,I,.nil,h⟩
theorem Tj(ha:PE X e te)(hr:PK X YS t):PK X (⟨nm,e,abH⟩::YS) (d5 te t):=by
 intro pos pins s σ H Q I h;show wpAny _ _ (evalAll ((do let v<-eval e X.env;standAt pos;pure v)::(backToKw pos (keywordEach YS X.env)).map (·.2))) _ _ s;refine wpAny_evalAll_cons (wpAny_bind (c_ (ha pins s σ H _ I h) λu s1 ⟨x,H1,I1,r1,q1⟩=>wpAny_bind (wpAny_standAt (wpAny_pure ?_))));exact c_ (hr pos pins s1 σ H1 _ I1 q1) λus s2 ⟨xs,H2,I2,r2,q2⟩=>⟨x::xs,H2,I2,.cons r1 r2,q2⟩
variable {g:List Value->List Value->List Value} {gV:List V->List V->List V}
end
structure ax(N P:List Str)(sc:Scope):Prop where
 kind:sc.kind= .function
 co:sc.isCoroutine=false
 gen:sc.isGenerator=false
 nd:N.Nodup
 pre:N.take P.length=P
 par:∀x∈P,sc.names.lookup x=some .local\/sc.names.lookup x=some .cell
 V2:∀y∈sc.names,y.2≠ .free
theorem Ek{kindOf:Str->Option NameKind}:∀{binds:List (Str×Value)} {m:Str->Option Value},(∀v,(x,v) ∉ binds)->bindL kindOf binds m x=m x
 |[],_,_=>rfl
 |(n,v)::r,m,h=>by
  unfold bindL;rw[Ek λw hw=>h w (aS _ hw)];split
  ·have:x≠n:=by rintro rfl;exact h v bB
   simp[this]
  ·rfl
theorem Em{kindOf:Str->Option NameKind}:∀{binds:List (Str×Value)} {m:Str->Option Value},(∀v,(x,v) ∉ binds)->bindC kindOf binds m x=m x
 |[],_,_=>rfl
 |(n,v)::r,m,h=>by
  unfold bindC;rw[Em λw hw=>h w (aS _ hw)];split
  ·rfl
  ·have:x≠n:=by rintro rfl;exact h v bB
   simp[this]
theorem El{kindOf:Str->Option NameKind}:∀{P:List Str} {vs:List Value} {i:Nat} {m:Str->Option Value},P.Nodup->P[i]? =some x->vs[i]? =some v->kindOf x=some .local->
  bindL kindOf (P.zip vs) m x=some v
 |[],_,_,_,_,h,_,_=>by simp at h
 |_::_,[],_,_,_,_,h,_=>by simp at h
 |p::P,w::vs,0,m,nd,h1,h2,hk=>by
  simp at h1 h2;subst h1;subst h2;show bindL kindOf ((p,w)::P.zip vs) m p=_;unfold bindL;rw[Ek λv hv=>(List.nodup_cons.mp nd).1 (List.of_mem_zip hv).1,ai hk];simp
 |p::P,w::vs,i+1,m,nd,h1,h2,hk=>by
  show bindL kindOf ((p,w)::P.zip vs) m x=_;unfold bindL;exact El (i:=i) (List.nodup_cons.mp nd).2 (by simpa using h1) (by simpa using h2) hk
theorem En{kindOf:Str->Option NameKind}:∀{P:List Str} {vs:List Value} {i:Nat} {m:Str->Option Value},P.Nodup->P[i]? =some x->vs[i]? =some v->kindOf x≠some .local->
  bindC kindOf (P.zip vs) m x=some v
 |[],_,_,_,_,h,_,_=>by simp at h
 |_::_,[],_,_,_,_,h,_=>by simp at h
 |p::P,w::vs,0,m,nd,h1,h2,hk=>by
  simp at h1 h2;subst h1;subst h2;show bindC kindOf ((p,w)::P.zip vs) m p=_;unfold bindC;rw[Em λv hv=>(List.nodup_cons.mp nd).1 (List.of_mem_zip hv).1,ah hk];simp
 |p::P,w::vs,i+1,m,nd,h1,h2,hk=>by
  show bindC kindOf ((p,w)::P.zip vs) m x=_;unfold bindC;exact En (i:=i) (List.nodup_cons.mp nd).2 (by simpa using h1) (by simpa using h2) hk
def start(N:List Str)(vs:List V):St:=vs.map some++List.replicate (N.length - vs.length) none
def CS(CX:JI)(P:Program)(w:World)(K:PySem.W.Frag)(mg:Str->Option Value)(base:Heap)(N:List Str)(qual:Str)(scope:Scope)(f:Addr)(cd:Value)(A:Around)(outer:List Env)(s:Shared)(H:Hp)(E:XK):Cx where
 prog:=P
 w:=w
 K:=K
 mg:=mg
 base:=base
 A:=A.deeper (envOfC qual scope s.heap.objs.size f cd)
 N:=N
 BS:=s
 Z6:=H
 env:=envOfC qual scope s.heap.objs.size f cd
 outer:=outer
 stack:=envOfC qual scope s.heap.objs.size f cd::outer
 ex:=[]
 calm:=true
 fn:=λ_=>true
 pn:=[]
 xe:=λe s'=>wpAny (model P w) (A.deeper (envOfC qual scope s.heap.objs.size f cd)) («leaving» (envOfC qual scope s.heap.objs.size f cd) e) (λ_ VB=>CX outer H s E e VB) (λe' VB=>CX outer H s E e' VB) s'
theorem Ji{sc:Scope}(h:sc.names.lookup x=some .cell):∃c,(cellsFrom n sc.names []).lookup x=some c:=by
 have q:=PySem.W.cellsFrom_some sc.names n [] (.inl h);exact Option.isSome_iff_exists.mp q
theorem N6{K:PySem.W.Frag}{A:Around}{vs:List V}
  (S:ax N ps scope) (hd:A.handled=none) (e0:LC P w K mg base A outer s H) (hl:vs.length=ps.length) (r:Vals vs us)
  (x:InCallC s s.heap.objs.size (bindL (envOfC qual scope s.heap.objs.size f cd).kindOf (ps.zip us) λ_=>none) (cellsFrom (s.heap.objs.size+1) scope.names []) (bindC (envOfC qual scope s.heap.objs.size f cd).kindOf (ps.zip us) λ_=>none) s1):
  Inv (CS CX P w K mg base N qual scope f cd A outer s H E) [] (start N vs) H s1:=by
 have uT:ps.length<=N.length:=by have:=congrArg List.length S.pre;rw[bE]at this;omega
 obtain⟨h1,tk,rfl,hk⟩:=x.done;have Xk:∀b:Addr,b ∉ (CS CX P w K mg base N qual scope f cd A outer s H E).ex:=λb z=>absurd (show b∈([]:List Addr)from z) (by simp)
 refine⟨⟨e0.mod,S.kind,rfl,rfl,aM _,λy z c h1 h2=>?_,λy hy=>?_,λy c _ h=>?_,λ_=>hd,Around.frames_deeper e0.frames,.inr ⟨rfl,rfl⟩,λb z=>absurd z (Xk b),e0.bs,e0.R8,λb _ _=>Xk b,λb z=>absurd z (Xk b),e0.oM,e0.Uh⟩,
  rfl,e0.bare,Un.kept hk,⟨_,x.toInCall.ns,λi y v h1 h2 h3=>?_⟩,λy c h=>⟨_,x.cell y c h⟩,e0.cM.fresh (aM _),λy c h=>?_,λp hp=>absurd (show p∈([]:List (Addr×Obj))from hp) (by simp),e0.cM.kept hk,?_⟩
 ·exact name_of_addr x.apart (PySem.mem_of_lookup h1) (PySem.mem_of_lookup h2)
 ·have hy:scope.names.lookup y=some .cell\/scope.names.lookup y=some .free:=hy;rcases hy with hy|hy
  ·exact Ji hy
  ·exact absurd rfl (S.V2 _ (PySem.mem_of_lookup hy))
 ·exact qj (x.above y c (PySem.mem_of_lookup h))
 ·have hi:i<vs.length:=by
   unfold start at h2;by_cases hi:i<vs.length
   ·exact hi
   ·rw[jy (by simpa using hi)]at h2;rw[List.getElem?_replicate]at h2;split at h2<;>cases h2
  have ha:vs[i]? =some v:=by
   unfold start at h2;rw[gY (by simpa using hi),bO]at h2;cases e:vs[i]? with
   |none=>rw[e]at h2;cases h2
   |some a=>rw[e]at h2;cases h2;rfl
  obtain⟨u,hu,rv⟩:=r.get ha;have hp:ps[i]? =some y:=by
   rw[<-S.pre,List.getElem?_take_of_lt (by omega)];exact h1
  have ndP:ps.Nodup:=by rw[<-S.pre];exact S.nd.sublist (List.take_sublist _ _)
  refine⟨u,rv,?_⟩;rcases S.par y (d7 hp)with k|k
  ·exact .inl ⟨k,El ndP hp hu k⟩
  ·obtain⟨c,e⟩:=Ji (n:=s.heap.objs.size+1) k;refine .inr ⟨.inl k,c,e,?_⟩;have q:=x.cell y c e;rw[En ndP hp hu (by show scope.names.lookup y≠_;rw[k];decide)]at q;exact q
 ·exact e0.cM.fresh (qj (x.above y c (PySem.mem_of_lookup h)))
 ·unfold start;show _=N.length;rw[ba,aH,jx];omega
theorem U_{K:PySem.W.Frag}{kV:Value}{sp:Sp}(lk:K.lookup f=some ⟨oc,od,.func (PySem.W.fnOf name qual params body scope dV kV doc pm an bG ct),DN⟩)(yN:PySem.W.codeIn K bG qual=true)(S:ax N ps scope)
  (len:∀vs H Q E,sp vs H Q E->vs.length=ps.length)
  (IG:∀(A:Around) (outer:List Env) (s:Shared) (H:Hp) (vs:List V) (Q:VK) (E:XK),dR k (A.deeper (envOfC qual scope s.heap.objs.size f bG))->sp vs H Q E->
   ∃t,JH (CS CX P w K mg base N qual scope f bG A outer s H E) body t/\t {nx:=λ_ H'=>Q .dt H',rt:=Q} (start N vs) H):
  aP P w K mg base CX (k+1) f (PySem.W.fnOf name qual params body scope dV kV doc pm an bG ct) ps sp:=by
 refine⟨len,λA outer s H args us vs Q E hr e0 hb r Px=>?_⟩;have hl:=len _ _ _ _ Px;have KX:K.In s.heap:=e0.mod.UU.keeps λb o e=>(e0.bs b o e).1
 have lim:s.heap.NoLimit:=e0.mod.nolimit.keeps λb o e=>(e0.bs b o e).1
 have Ru:∀y∈ps.zip us,scope.names.lookup y.1=some .local\/(scope.names.lookup y.1=some .cell/\((cellsFrom (s.heap.objs.size+1) scope.names []).lookup y.1).isSome=true):=λ⟨n,v⟩ hy=>by
  rcases S.par n (List.of_mem_zip hy).1 with q|q
  ·exact .inl q
  ·exact .inr ⟨q,PySem.W.cellsFrom_some _ _ _ (.inl q)⟩
 refine codeAny_call_function hr.depth (KX _ _ lk) rfl S.co S.gen rfl (PySem.W.codeRec_of KX yN) (hb _ _ _ _ ?_);refine wpAny_newFunctionEnv_cells S.kind Ru λenv he s1 x=>?_
 subst he;refine⟨lim.keeps x.toInCall.keep,codeAny_func ?_⟩;obtain⟨t,ht,hq⟩:=IG A outer s H vs Q E (hr.deeper _) Px;have I:Inv (CS CX P w K mg base N qual scope f bG A outer s H E) [] (start N vs) H s1:=N6 S hr.hd e0 hl r x;refine wpAny_mono (ht [] s1 (start N vs) H _ I hq) (λfl s' hs=>?_) λe s' hs=>hs
 have fin:∀{σ':St} {H':Hp} {v:V} {u:Value},Inv (CS CX P w K mg base N qual scope f bG A outer s H E) [] σ' H' s'->RelV v u->Q v H'->CE outer P w H s Q u s':=
  λ{σ' H' v u} J rv q=>⟨v,H',J.os,J.bare,J.base,J.cM,rv,q⟩
 cases fl with
 |ret u=>
  obtain⟨v,σ',H',J,rv,q⟩:=hs;exact fin J rv q
 |next=>
  obtain⟨σ',H',J,q⟩:=hs;exact fin (v:=V.dt) (u:=Value.none) J rfl q
 |brk=>
  obtain⟨_,_,_,q⟩:=hs;exact False.elim q
 |cont=>
  obtain⟨_,_,_,q⟩:=hs;exact False.elim q
end L2
namespace L2
open PySem PySem.Spec PyProof.Rows
section
variable {X:Cx} {x:Str} {p pos:Pos} {e:Expr} {es:List Expr} {t:TA} {id T:String} {r:List V->Hp->VK->Prop}
def tCB(r:List V->Hp->VK->Prop)(t:TA):TE:=λσ H Q=>t σ H λvs H1=>r vs H1 Q
theorem cb(hc:vp X (.builtin id) r)(hg:Gl X x)(hm:X.mg x=none)(hv:bootBuiltins x=some (.builtin id))(ha:PA X (e::es) t)(hn:x≠"__name__":=by decide)(yn:(x==("__debug__":Str))=false:=by decide)
  (he:starEach (e::es) X.env=(false,eval e X.env)::starEach es X.env:=by rfl) (uT:(backTo pos (starEach es X.env)).any (·.1)=false:=by rfl):PE X (.Call (.Name x p) (e::es) [] pos) (tCB r t):=by
 intro pins s σ H Q I h;refine wpAny_Call_Name_kw (nU I hg hm hv ?_ hn yn);exact PyProof.Rows.callWith_builtin1 (c_ (ha pos pins s σ H _ I h) λus s1 ⟨vs,H1,I1,r1,q1⟩=>hc pins s1 σ H1 vs us Q I1 r1 q1) he uT
theorem DJ(hc:vp X (.type T) r)(hg:Gl X x)(hm:X.mg x=none)(hv:bootBuiltins x=some (.type T))(ha:PA X (e::es) t)(hn:x≠"__name__":=by decide)(yn:(x==("__debug__":Str))=false:=by decide)
  (he:starEach (e::es) X.env=(false,eval e X.env)::starEach es X.env:=by rfl) (uT:(backTo pos (starEach es X.env)).any (·.1)=false:=by rfl):PE X (.Call (.Name x p) (e::es) [] pos) (tCB r t):=by
 intro pins s σ H Q I h;refine wpAny_Call_Name_kw (nU I hg hm hv ?_ hn yn);exact PyProof.Rows.callWith_type1 (c_ (ha pos pins s σ H _ I h) λus s1 ⟨vs,H1,I1,r1,q1⟩=>hc pins s1 σ H1 vs us Q I1 r1 q1) he uT
end
end L2
namespace HT
open PySem PyProof.Rows
section
open PySem.SeqAt
open PySem.AutoSeq1 (wpAny_loadPart')
open PySem.MeetsSeq PySem.MeetsSeq2 PySem.MeetsSeq3
end
section
variable {prog:Program} {w:World} {A:Around} {E:Value->Shared->Prop} {s:Shared}
def jG(n d:Nat):Option Int->Nat
 |none=>d
 |some v=>if v<0 then(v+(n:Int)).toNat else min v.toNat n
theorem pB(n d:Nat):jG n d none=d:=rfl
theorem ia(n d k:Nat):jG n d (some (k:Int))=min k n:=by
 show(if(k:Int)<0 then((k:Int)+(n:Int)).toNat else min (k:Int).toNat n)=min k n;rw[ah (by omega),Int.toNat_natCast]
theorem Qj(n d:Nat)(hd:d<=n)(o:Option Int):jG n d o<=n:=by
 cases o with
 |none=>exact hd
 |some v=>
  show(if v<0 then(v+(n:Int)).toNat else min v.toNat n)<=n;by_cases hv:v<0
  ·rw[ai hv];omega
  ·rw[ah hv];exact Nat.min_le_right _ _
end
end HT
namespace L2
open PySem PySem.Spec PyProof.Rows
abbrev TO:=St->Hp->(Option Int->Hp->Prop)->Prop
def PO(X:Cx)(e:Option Expr)(t:TO):Prop:=
 ∀(pins:List (Addr×Obj)) (s:Shared) (σ:St) (H:Hp) (Q:Option Int->Hp->Prop),Inv X pins σ H s->t σ H Q->
  wpAny (model X.prog X.w) X.A (evalPart e X.env) (λu s'=>∃o H',Inv X pins σ H' s'/\IsPart u o/\Q o H') X.xe s
def SY:TO:=λ_ H Q=>Q none H
def zf(t:TE):TO:=λσ H Q=>t σ H λx H1=>∃i,x= .int i/\Q (some i) H1
section
variable {X:Cx} {e:Expr} {te:TE} {lo hi:Option Expr} {tl th:TO} {pos p2:Pos}
theorem ur:PO X none SY:=by
 intro pins s σ H Q I h;rw[evalPart_none];exact wpAny_pure ⟨none,H,I,.none,h⟩
theorem bQ(h:PE X e te):PO X (some e) (zf te):=by
 intro pins s σ H Q I hw;rw[evalPart_some];refine c_ (h pins s σ H _ I hw) λu s1 ⟨x,H1,I1,r1,q1⟩=>?_
 obtain⟨i,rfl,q⟩:=q1;obtain⟨t,rfl⟩:=r1;exact⟨some i,H1,I1,.int i t,q⟩
def SlR(X:Cx)(r:V->Option Int->Option Int->Hp->VK->Prop):Prop:=
 ∀(pins:List (Addr×Obj)) (s:Shared) (σ:St) (H:Hp) (x:V) (v vl vu:Value) (lo hi:Option Int) (sl:Addr) (Q:VK),Inv X pins σ H s->RelV x v->s.heap.IsSliceOf sl vl vu .none->IsPart vl lo->IsPart vu hi->r x lo hi H Q->
  ∃T id,typeLookup (.type T) "__getitem__"=pure (some (.builtin id))/\s.TypeIs v T/\wpAny (model X.prog X.w) X.A (getItem v (.ref sl)) (EP X pins σ Q) X.xe s
def tSl(r:V->Option Int->Option Int->Hp->VK->Prop)(te:TE)(tl th:TO):TE:=λσ H Q=>te σ H λx H1=>tl σ H1 λl H2=>th σ H2 λu H3=>r x l u H3 Q
theorem de{r:V->Option Int->Option Int->Hp->VK->Prop}(hr:SlR X r)(he:PE X e te)(hl:PO X lo tl)(hu:PO X hi th):PE X (.Subscript e (.Slice lo hi none p2) pos) (tSl r te tl th):=by
 intro pins s σ H Q I h;refine Subscript_ (c_ (he pins s σ H _ I h) λv s1 ⟨x,H1,I1,r1,q1⟩=>?_);refine wpAny_Slice (c_ (hl pins s1 σ H1 _ I1 q1) λvl s2 ⟨l,H2,I2,pl,q2⟩=>c_ (hu pins s2 σ H2 _ I2 q2) λvu s3 ⟨u,H3,I3,pu,q3⟩=>?_);rw[evalPart_none];refine wpAny_pure ?_;have I4:Inv X pins σ H3 {s3 with heap:=s3.heap.push {cls:=.type "slice",data:=.fields #[vl,vu,.none]}}:=I3.kept (t':=s3.toks) λb ob q=>Heap.get?_push_of_some _ q
 obtain⟨T,id,hT,ht,hg⟩:=hr pins {s3 with heap:=s3.heap.push {cls:=.type "slice",data:=.fields #[vl,vu,.none]}} σ H3 x v vl vu l u s3.heap.objs.size Q I4 r1 (Heap.IsSliceOf.new ..) pl pu q3;show wpAny (model X.prog X.w) X.A (subscriptTail e (.Slice lo hi none p2) v (.ref s3.heap.objs.size)) (EP X pins σ Q) X.xe {s3 with heap:=s3.heap.push {cls:=.type "slice",data:=.fields #[vl,vu,.none]}};exact tail_any (ops:=[.ref s3.heap.objs.size,v]) ht hT hg (by with_unfolding_all rfl)
def d4(xs:List V)(lo hi:Option Int):List V:=(xs.drop (HT.jG xs.length 0 lo)).take (HT.jG xs.length xs.length hi - HT.jG xs.length 0 lo)
theorem Jd(xs:List V)(lo hi:Option Int):(d4 xs lo hi).length<=xs.length:=by
 unfold d4;rw[bE,a_];omega
end
end L2
namespace L2
open PySem PySem.Spec PyProof.Rows
def Pw(n:Nat)(i:Int):Option Nat:=if 0<=i then(if i<n then some i.toNat else none)else if -(n:Int)<=i then some (i+n).toNat else none
def O6{α:Type}(xs:List α)(i:Int):Option α:=(Pw xs.length i).bind λj=>xs[j]?
theorem Mn(h:Pw n i=some j):seqIndex? i n=some j/\j<n/\ -(n:Int)<=i/\i<n:=by
 unfold Pw at h;by_cases h0:0<=i
 ·rw[ai h0]at h;by_cases h1:i<n
  ·rw[ai h1]at h;have e:i.toNat=j:=aO h;exact⟨by rw[seqIndex_of h0 h1,e],by omega,by omega,h1⟩
  ·rw[ah h1]at h;cases h
 ·rw[ah h0]at h;by_cases h1: -(n:Int)<=i
  ·rw[ai h1]at h;have e:(i+n).toNat=j:=aO h;exact⟨by rw[seqIndex_neg (by omega) h1,e],by omega,h1,by omega⟩
  ·rw[ah h1]at h;cases h
theorem GH{α:Type}{xs:List α}{v:α}(h:O6 xs i=some v):∃j,seqIndex? i xs.length=some j/\xs[j]? =some v/\j<xs.length/\ -(xs.length:Int)<=i/\i<xs.length:=by
 unfold O6 at h;cases e:Pw xs.length i with
 |none=>rw[e]at h;cases h
 |some j=>
  rw[e]at h;obtain⟨h1,h2,h3,h4⟩:=Mn e;exact⟨j,h1,h,h2,h3,h4⟩
theorem bW{α:Type}{xs:List α}{j:Nat}{v:α}(h:xs[j]? =some v):O6 xs (j:Int)=some v:=by
 have hj:j<xs.length:=(List.getElem?_eq_some_iff.mp h).1;have e:Pw xs.length (j:Int)=some j:=by
  unfold Pw;rw[ai (by omega),ai (by omega)];simp
 unfold O6;rw[e];exact h
theorem Sb{α:Type}(xs:List α)(v:α):O6 (xs++[v]) (-1)=some v:=by
 have hl:(xs++[v]).length=xs.length+1:=by simp
 have e:Pw (xs++[v]).length (-1)=some xs.length:=by
  unfold Pw;rw[hl,ah (by decide),ai (by omega)]
  congr 1
  omega
 unfold O6;rw[e];show(xs++[v])[xs.length]? =some v;simp
def UA(b:Expr):Prop:=∀o i,subscripted b false o i=operate [o,i] (getItem o i)
def IxR(X:Cx)(r:R2):Prop:=
 ∀(value slice:Expr) (pins:List (Addr×Obj)) (s:Shared) (σ:St) (H:Hp) (x y:V) (v u:Value) (Q:VK),Inv X pins σ H s->RelV x v->RelV y u->r x y H Q->
  subscripted slice false v u=operate [v,u] (getItem v u)->wpAny (model X.prog X.w) X.A (subscriptTail value slice v u) (EP X pins σ Q) X.xe s
def Si(X:Cx)(id:String)(r:V->List V->Hp->VK->Prop):Prop:=
 ∀(pins:List (Addr×Obj)) (s:Shared) (σ:St) (H:Hp) (x:V) (xs:List V) (v:Value) (us:List Value) (Q:VK),Inv X pins σ H s->RelV x v->Vals xs us->r x xs H Q->
  wpAny (model X.prog X.w) X.A (call (.builtin id) (v::us)) (EP X pins σ Q) X.xe s
section
variable {X:Cx} {a b:Expr} {ta tb:TE} {pos:Pos}
theorem bu(hr:IxR X r)(ha:PE X a ta)(hb:PE X b tb)(hs:UA b):PE X (.Subscript a b pos) (Hf r ta tb):=by
 intro pins s σ H Q I h;exact Subscript_ (W8 ha hb I h λv u s2 x y H2 I2 rx ry q=>hr a b pins s2 σ H2 x y v u Q I2 rx ry q (hs _ _))
inductive Qr(K:PySem.W.Frag)(x y:V)(H:Hp)(Q:VK):Prop
 |mk (p:Addr) (xs:List V) (i:Int) (v:V) (e:x= .ref p) (f:y= .int i) (s:bp K H p xs) (a:O6 xs i=some v) (q:Q v H):Qr K x y H Q
inductive VI(K:PySem.W.Frag)(x y:V)(H:Hp)(Q:VK):Prop
 |mk (p:Addr) (xs:List V) (i:Int) (v:V) (e:x= .ref p) (f:y= .int i) (s:rB K H p xs) (a:O6 xs i=some v) (q:Q v H):VI K x y H Q
inductive VJ(x y:V)(H:Hp)(Q:VK):Prop
 |mk (z:Str) (i:Int) (c:Nat) (e:x= .str z) (f:y= .int i) (g:z.length<=sizeLine) (h:O6 z.cps.toList i=some c) (q:Q (.str ⟨#[c]⟩) H):VJ x y H Q
theorem bq:IxR X (Qr X.K):=by
 intro value slice pins s σ H x y v u Q I rx ry h hs;obtain⟨p,xs,i,z,rfl,rfl,hq,he,q⟩:=h;cases rx;obtain⟨t,rfl⟩:=ry;obtain⟨its,r,pl,hz⟩:=I.list hq;obtain⟨j,h1,h2,h3,h4,h5⟩:=GH he;obtain⟨w,ew,VC⟩:=r.get h2;have hl:=r.length;have hn:=wo;have fin:EP X pins σ Q w s:=⟨z,H,I,VC,q⟩;by_cases h0:0<=i
 ·have hj:i.toNat=j:=by
   rw[seqIndex_of h0 h5]at h1;exact aO h1
  exact item_listR pl.isList h0 (by omega) (by rw[hj];simpa using ew) fin hs
 ·have hj:(i+(its.toArray.size:Int)).toNat=j:=by
   rw[seqIndex_neg (by omega) h4]at h1;rw[bL,<-hl];exact aO h1
  exact subscriptTail_builtinR (x:=w) pl.isList.typeIs slot_list_getitem.lookup
   (wpAny_getItem_list_neg (Q:=λr s'=>r=w/\EP X pins σ Q r s') pl.isList (by omega) (by rw[bL]<;>omega) (by omega) (by rw[hj];simpa using ew) ⟨rfl,fin⟩) hs
theorem dP:IxR X (VI X.K):=by
 intro value slice pins s σ H x y v u Q I rx ry h hs;obtain⟨p,xs,i,z,rfl,rfl,hq,he,q⟩:=h;cases rx;obtain⟨t,rfl⟩:=ry;obtain⟨its,r,pl,hz⟩:=I.tuple hq;obtain⟨j,h1,h2,h3,h4,h5⟩:=GH he;obtain⟨w,ew,VC⟩:=r.get h2;have hl:=r.length;have hn:=wo;have fin:EP X pins σ Q w s:=⟨z,H,I,VC,q⟩;exact subscriptTail_builtinR (x:=w) pl.typeIs slot_tuple_getitem.lookup
  (getItem_tuple (j:=j) (Q:=λr s'=>r=w/\EP X pins σ Q r s') pl (by omega) (by omega) (by rw[bL,<-hl];exact h1) (by simpa using ew) ⟨rfl,fin⟩) hs
theorem FU:IxR X VJ:=by
 intro value slice pins s σ H x y v u Q I rx ry h hs;obtain⟨z,i,c,rfl,rfl,hz,he,q⟩:=h;obtain⟨t,rfl⟩:=rx;obtain⟨t',rfl⟩:=ry;obtain⟨j,h1,h2,h3,h4,h5⟩:=GH he;have hl:z.cps.toList.length=z.length:=by simp[Str.length]
 rw[hl]at h1 h4 h5;have hn:=wo;exact tail_any (typeIs_str s z t) slot_str_getitem.lookup (getItem_str (c:=c) (by
  have e1:decide (i< -(2 ^ 63:Int))=false:=aQ (by omega);have e2:decide (i>=2 ^ 63)=false:=aQ (by omega);rw[e1,e2,Bool.or_false]) (by rw[h1];simpa using h2) ⟨.str ⟨#[c]⟩,H,I.tok _,⟨_,rfl⟩,q⟩) hs
theorem Kt(its:List Value)(n j:Nat)(u:Value):Obj.mapSeq (·.setIfInBounds j u) {cls:=.type "list",data:=.seq its.toArray n}={cls:=.type "list",data:=.seq (its.set j u).toArray n}:=by
 simp[Obj.mapSeq]
theorem Inv.lst(I:Inv X pins σ H s)(h:H p=some (.lst xs)):
  ∃(its:List Value) (n:Nat),Vals xs its/\s.heap.get? p=some {cls:=.type "list",data:=.seq its.toArray n}/\xs.length<=sizeLine:=by
 obtain⟨z,its,n,r,e⟩:=I.cM p _ h;exact⟨its,n,r,e,z⟩
theorem Inv.V9{its its':List Value}(I:Inv X pins σ H s)(h:H p=some (.lst xs))
  (ho:s.heap.get? p=some {cls:=.type "list",data:=.seq its.toArray n}) (hf:f {cls:=.type "list",data:=.seq its.toArray n}={cls:=.type "list",data:=.seq its'.toArray n'}) (r:Vals ys its') (hz:ys.length<=sizeLine) (t:Nat):
  Inv X pins σ (upd H p (.lst ys)) {s with heap:=s.heap.update p f,toks:=t}:=by
 have e:(s.heap.update p f).get? p=some {cls:=.type "list",data:=.seq its'.toArray n'}:=by
  rw[Heap.get?_update_self f ho (by rw[hf]<;>rfl),hf]
 refine I.write (x:=p) (e:=p) (by rw[h];trivial) (.inl rfl) (λb u hb q=>(Heap.get?_update_other _ _ (Ne.symm hb)).trans q) ⟨_,e⟩ ?_;exact⟨hz,its',n',r,e⟩
inductive UL(o i v:V)(H:Hp)(Q:Hp->Prop):Prop
 |mk (p:Addr) (xs:List V) (k:Int) (j:Nat) (e:o= .ref p) (f:i= .int k) (g:H p=some (.lst xs)) (h:Pw xs.length k=some j) (q:Q (upd H p (.lst (xs.set j v)))):UL o i v H Q
theorem set_list:ZY X UL:=by
 intro pins s σ H o i v ov iv u Q I ro ri rv h;obtain⟨p,xs,k,j,rfl,rfl,hp,hj,q⟩:=h;cases ro;obtain⟨t,rfl⟩:=ri;obtain⟨its,n,r,ho,hz⟩:=I.lst hp;obtain⟨h1,h2,h3,h4⟩:=Mn hj;have hl:=r.length;have hn:=wo;have I':Inv X pins σ (upd H p (.lst (xs.set j v))) {s with heap:=s.heap.update p (Obj.mapSeq (·.setIfInBounds j u))}:=
  I.V9 hp ho (Kt its n j u) (r.set rv j) (by rw[List.length_set];exact hz) s.toks
 by_cases h0:0<=k
 ·have hk:k.toNat=j:=by
   rw[seqIndex_of h0 h4]at h1;exact aO h1
  exact PySem.W.ki_setAt ho h0 (by omega) (by rw[bL,<-hl];exact h4) (by rw[hk];exact⟨_,I',q⟩)
 ·have hk:(k+(its.toArray.size:Int)).toNat=j:=by
   rw[seqIndex_neg (by omega) h3]at h1;rw[bL,<-hl];exact aO h1
  exact PySem.W.ki_setBack ho (by omega) (by rw[bL,<-hl];exact h3) (by omega) (by rw[hk];exact⟨_,I',q⟩)
theorem EY(lo hi:Option Int)(n:Nat):(sliceBounds lo hi none n).1=((HT.jG n 0 lo:Nat):Int)/\(sliceBounds lo hi none n).2.1=((HT.jG n n hi:Nat):Int)/\(sliceBounds lo hi none n).2.2=1:=by
 refine⟨?_,?_,rfl⟩
 ·cases lo with
  |none=>simp[sliceBounds,HT.jG]
  |some i=>
   simp only [sliceBounds,HT.jG,Option.getD_none,show(1:Int)>0 by decide,if_true];by_cases h:i<0
   ·simp only [h,if_true]<;>omega
   ·simp only [h,if_false]<;>omega
 ·cases hi with
  |none=>simp[sliceBounds,HT.jG]
  |some i=>
   simp only [sliceBounds,HT.jG,Option.getD_none,show(1:Int)>0 by decide,if_true];by_cases h:i<0
   ·simp only [h,if_true]<;>omega
   ·simp only [h,if_false]<;>omega
theorem BF(its:List Value)(lo hi:Option Int):slicePick its.toArray lo hi none=((its.drop (HT.jG its.length 0 lo)).take (HT.jG its.length its.length hi - HT.jG its.length 0 lo)).toArray:=by
 obtain⟨h1,h2,h3⟩:=EY lo hi its.toArray.size;unfold slicePick;rw[h1,h2,h3];simp only [sliceRange_one,pick_run,bL]<;>rfl
inductive Yq(K:PySem.W.Frag)(x:V)(lo hi:Option Int)(H:Hp)(Q:VK):Prop
 |mk (a:Addr) (xs:List V) (e:x= .ref a) (s:bp K H a xs) (q:∀p,H p=none->Q (.ref p) (upd H p (.lst (d4 xs lo hi)))):Yq K x lo hi H Q
theorem fw:SlR X (Yq X.K):=by
 intro pins s σ H x v vl vu lo hi sl Q I rx hs pl pu h;obtain⟨a,xs,rfl,hx,q⟩:=h;cases rx;obtain⟨its,r,ht,hz⟩:=I.list hx;have hlen:=r.length;refine⟨"list",_,slot_list_getitem.lookup,ht.isList.typeIs,?_⟩;refine wpAny_getItem_list_slice ht.isList hs pl pu .none (by simp) ?_ (by rw[bL]<;>omega);rw[BF,<-hlen];refine⟨.ref s.heap.objs.size,_,I.laid (t':=s.toks) (o:=.lst (d4 xs lo hi)) (λb ob q=>Heap.get?_push_of_some _ q) (aM _) ?_,rfl,q _ (I.cM.fresh (aM _))⟩;exact⟨a8 (Jd xs lo hi) hz,_,0,(r.drop (HT.jG xs.length 0 lo)).take (HT.jG xs.length xs.length hi - HT.jG xs.length 0 lo),Heap.get?_push_size _ rfl⟩
def uW:V->Bool
 | .dt=>true
 | .bl _=>true
 | .int _=>true
 | .str _=>true
 |_=>false
def PB:V->V->Bool
 | .dt,.dt=>true
 | .bl a,.bl b=>a==b
 | .bl a,.int b=>(if a then 1 else 0)==b
 | .int a,.bl b=>a==(if b then 1 else 0)
 | .int a,.int b=>a==b
 | .str a,.str b=>a==b
 |_,_=>false
theorem WT(ry:RelV y u)(rx:RelV x v)(fy:uW y=true)(fx:uW x=true):SeqAt.EqAt A s u v (PB y x):=by
 cases y with
 |dt=>
  cases ry;cases x with
  |dt=>cases rx;exact SeqAt.EqAt.same _
  |bl b=>cases rx;exact SeqAt.EqAt.none_bool b
  |int b=>obtain⟨t,rfl⟩:=rx;exact SeqAt.EqAt.none_int b t
  |str b=>obtain⟨t,rfl⟩:=rx;exact SeqAt.EqAt.none_str b t
  |_=>exact absurd (show false=true from fx) az
 |bl a=>
  cases ry;cases x with
  |dt=>cases rx;exact SeqAt.EqAt.bool_none a
  |bl b=>cases rx;exact SeqAt.EqAt.bool_bool a b
  |int b=>obtain⟨t,rfl⟩:=rx;exact SeqAt.EqAt.bool_int a b t
  |str b=>obtain⟨t,rfl⟩:=rx;exact SeqAt.EqAt.bool_str a b t
  |_=>exact absurd (show false=true from fx) az
 |int a=>
  obtain⟨t',rfl⟩:=ry;cases x with
  |dt=>cases rx;exact SeqAt.EqAt.int_none a t'
  |bl b=>cases rx;exact SeqAt.EqAt.int_bool a t' b
  |int b=>obtain⟨t,rfl⟩:=rx;exact SeqAt.EqAt.int_int a t' b t
  |str b=>obtain⟨t,rfl⟩:=rx;exact SeqAt.EqAt.int_str a t' b t
  |_=>exact absurd (show false=true from fx) az
 |str a=>
  obtain⟨t',rfl⟩:=ry;cases x with
  |dt=>cases rx;exact SeqAt.EqAt.str_none a t'
  |bl b=>cases rx;exact SeqAt.EqAt.str_bool a t' b
  |int b=>obtain⟨t,rfl⟩:=rx;exact SeqAt.EqAt.str_int a t' b t
  |str b=>obtain⟨t,rfl⟩:=rx;exact SeqAt.EqAt.str_str a t' b t
  |_=>exact absurd (show false=true from fx) az
 |_=>exact absurd (show false=true from fy) az
def Uq(x:V)(u:Value):Bool:=match u with
 | .none=>PB .dt x
 | .bool b=>PB (.bl b) x
 | .int i _=>PB (.int i) x
 | .str z _=>PB (.str z) x
 |_=>false
theorem RP(r:RelV y u)(f:uW y=true):Uq x u=PB y x:=by
 cases y with
 |dt=>cases r;rfl
 |bl b=>cases r;rfl
 |int i=>obtain⟨t,rfl⟩:=r;rfl
 |str z=>obtain⟨t,rfl⟩:=r;rfl
 |_=>exact absurd (show false=true from f) az
theorem GJ{x:V}:∀{xs:List V} {us:List Value},Vals xs us->xs.all uW=true->us.any (Uq x)=xs.any λy=>PB y x
 |_,_,.nil,_=>rfl
 |y::xs,u::us,.cons r t,f=>by
  rw[List.all_cons,bj]at f;rw[List.any_cons,List.any_cons,RP r f.1,GJ t f.2]
theorem AA{A:Around}{s:Shared}(rx:RelV x v)(fx:uW x=true):∀{xs:List V} {us:List Value},Vals xs us->xs.all uW=true->∀u∈us,SeqAt.EqAt A s u v (Uq x u)
 |_,_,.nil,_=>λu hu=>by cases hu
 |y::xs,u::us,.cons r t,f=>λu' hu=>by
  rw[List.all_cons,bj]at f;rcases List.mem_cons.mp hu with rfl|hu
  ·rw[RP r f.1];exact WT r rx f.1 fx
  ·exact AA rx fx t f.2 u' hu
def Sz(x:V)(xs:List V):Bool:=xs.any λy=>PB y x
inductive rIn(K:PySem.W.Frag)(neg:Bool)(x y:V)(H:Hp)(Q:VK):Prop
 |mk (p:Addr) (xs:List V) (e:y= .ref p) (f:bp K H p xs\/rB K H p xs) (g:uW x=true) (h:xs.all uW=true) (q:Q (.bl (if neg then !Sz x xs else Sz x xs)) H):rIn K neg x y H Q
theorem qF:sZ X (compareOp .In) (rIn X.K false):=by
 intro pins s σ H x y v u Q I rx ry h;obtain⟨p,xs,rfl,hq,fx,fs,q⟩:=h;cases ry;rcases hq with hq|hq
 ·obtain⟨its,r,pl,hz⟩:=I.list hq;refine SeqAt.in_listAt (Uq x) pl.isList (λw hw=>AA rx fx r fs w (by simpa using hw)) ⟨.bl _,H,I,rfl,?_⟩;rw[show its.toArray.any (Uq x)=its.any (Uq x) by simp,GJ r fs];exact q
 ·obtain⟨its,r,pl,hz⟩:=I.tuple hq;refine SeqAt.in_tupleAt (Uq x) pl (λw hw=>AA rx fx r fs w (by simpa using hw)) ⟨.bl _,H,I,rfl,?_⟩;rw[show its.toArray.any (Uq x)=its.any (Uq x) by simp,GJ r fs];exact q
theorem dv:vp X (.builtin "len") (λxs H Q=>∃p ys,xs=[.ref p]/\(bp X.K H p ys\/rB X.K H p ys)/\Q (.int ys.length) H):=by
 intro pins s σ H xs us Q I r h;obtain⟨p,ys,rfl,hq,q⟩:=h;obtain⟨u,rfl,rx⟩:=vals1 r;cases rx;have hn:=wo;rcases hq with hq|hq
 ·obtain⟨its,r',pl,hz⟩:=I.list hq;have hlen:=r'.length;exact Calls.call_len_list pl.isList (by simp only [bL]<;>omega) ⟨.int ys.length,H,I.tok _,⟨s.toks+1,by rw[bL,hlen]⟩,q⟩
 ·obtain⟨its,r',pl,hz⟩:=I.tuple hq;have hlen:=r'.length;exact len_tuple pl (by simp only [bL]<;>omega) ⟨.int ys.length,H,I.tok _,⟨s.toks+1,by rw[bL,hlen]⟩,q⟩
theorem jF:vp X (.builtin "len") (λxs H Q=>∃z,xs=[.str z]/\z.length<=sizeLine/\Q (.int z.length) H):=by
 intro pins s σ H xs us Q I r h;obtain⟨z,rfl,hz,q⟩:=h;obtain⟨u,rfl,t,rfl⟩:=vals1 r;have hn:=wo;exact len_str (by omega) ⟨.int z.length,H,I.tok _,⟨_,rfl⟩,q⟩
theorem vg:vp X (.type "list") (λxs H Q=>∃p ys,xs=[.ref p]/\(bp X.K H p ys\/rB X.K H p ys)/\∀l,H l=none->Q (.ref l) (upd H l (.lst ys))):=by
 intro pins s σ H xs us Q I r h;obtain⟨p,ys,rfl,hq,q⟩:=h;obtain⟨u,rfl,rx⟩:=vals1 r;cases rx;have fin:∀(its:List Value),Vals ys its->ys.length<=sizeLine->∀(h':Heap) (c':Nat),(∀b o',s.heap.get? b=some o'->h'.get? b=some o')->
   h'.get? s.heap.objs.size=some {cls:=.type "list",dict:=none,data:=.seq its.toArray c',slots:= #[]}->EP X pins σ Q (.ref s.heap.objs.size) {s with heap:=h'}:=λits r' hz h' c' kp e=>
  ⟨.ref s.heap.objs.size,_,I.laid (t':=s.toks) kp (aM _) (show dO X.prog X.w _ h' _ (.lst ys)from⟨hz,its,c',r',e⟩),rfl,q _ (I.cM.fresh (aM _))⟩
 rcases hq with hq|hq
 ·obtain⟨its,r',pl,hz⟩:=I.list hq;have hlen:=r'.length;obtain⟨o,ho,hc,n,hd⟩:=pl.isList;exact call_list_seq p (.inl rfl) ho hc hd (λh' c' kp e=>fin its r' hz h' c' kp e) (by simp only [bL]<;>omega)
 ·obtain⟨its,r',pl,hz⟩:=I.tuple hq;have hlen:=r'.length;obtain⟨o,ho,hc,n,hd⟩:=pl;exact call_list_seq p (.inr rfl) ho hc hd (λh' c' kp e=>fin its r' hz h' c' kp e) (by simp only [bL]<;>omega)
def tyV(K:PySem.W.Frag)(T:String)(x:V)(H:Hp):Prop:=match x with
 | .str _=>T="str"
 | .int _=>T="int"
 | .ref p=>(T="list"/\∃xs,bp K H p xs)\/(T="tuple"/\∃o,K.lookup p=some o/\o.cls= .type "tuple"/\o.dict=none)\/
   (T="dict"/\((∃bD,H p=some (.dK bD))\/∃bD,H p=some (.dT bD)))\/(T="set"/\∃S n,H p=some (.set S n))
 |_=>False
theorem PL(I:Inv X pins σ H s)(r:RelV x v)(ty:tyV X.K T x H):
  s.TypeIs v T/\∀a,v= .ref a->∃ob,s.heap.get? a=some ob/\ob.dict=none:=by
 cases x with
 |str z=>
  obtain⟨t,rfl⟩:=r;cases (show T="str" from ty);exact⟨typeIs_str s z t,λ_ e=>nomatch e⟩
 |int i=>
  obtain⟨t,rfl⟩:=r;cases (show T="int" from ty);exact⟨typeIs_int s i t,λ_ e=>nomatch e⟩
 |ref p=>
  cases r;rcases ty with⟨rfl,xs,hq⟩|⟨rfl,o,hk,hc,hd⟩|⟨rfl,hk⟩|⟨rfl,S,n,hk⟩
  ·obtain⟨its,_,pl,_⟩:=I.list hq;refine⟨pl.isList.typeIs,λa e=>?_⟩;cases e;obtain⟨o,n,e,c,hd,_⟩:=pl;exact⟨o,e,hd⟩
  ·refine⟨⟨o,I.yM p o hk,hc⟩,λa e=>?_⟩;cases e;exact⟨o,I.yM _ o hk,hd⟩
  ·have z:∃o,s.heap.get? p=some o/\o.ExactDict:=by
    rcases hk with⟨bD,hk⟩|⟨bD,hk⟩
    ·obtain⟨_,_,_,_,o,_,_,e,ex,_⟩:=I.cM p _ hk;exact⟨o,e,ex⟩
    ·obtain⟨_,_,_,_,o,_,_,e,ex,_⟩:=I.cM p _ hk;exact⟨o,e,ex⟩
   obtain⟨o,e,ex⟩:=z;refine⟨⟨o,e,ex.1⟩,λa e2=>?_⟩;cases e2;exact⟨o,e,ex.2.1⟩
  ·obtain⟨o,_,_,_,e,ex,_⟩:=I.cM p _ hk;refine⟨⟨o,e,ex.1⟩,λa e2=>?_⟩;cases e2;exact⟨o,e,ex.2.1⟩
 |_=>exact False.elim ty
def abj(K:PySem.W.Frag)(T:String)(r:V->List V->Hp->VK->Prop)(to:TE):TE:=λσ H Q=>to σ H λx H1=>tyV K T x H1/\r x [] H1 Q
def tBM(K:PySem.W.Frag)(T:String)(r:V->List V->Hp->VK->Prop)(to:TE)(t:TA):TE:=λσ H Q=>to σ H λx H1=>tyV K T x H1/\t σ H1 λxs H2=>r x xs H2 Q
variable {o e:Expr} {es:List Expr} {to:TE} {t:TA} {name:Str} {apos iu:Pos} {T id:String} {r:V->List V->Hp->VK->Prop}
theorem r_(pa:PlainAttrs T)(slot:Slot T name id)(UY:typeOf (.builtin id)=pure (.type "method_descriptor"))(hm:Si X id r)(ho:PE X o to)
  (j9:attributeBase o name X.env (eval o X.env)=eval o X.env:=by rfl) (jd:(apos.endLine==iu.line)=true:=by rfl):PE X (.Call (.Attribute o name apos) [] [] iu) (abj X.K T r to):=by
 intro pins s σ H Q I h;refine wpAny_Call_method0_late j9 jd (c_ (ho pins s σ H _ I h) λv s1 ⟨x,H1,I1,r1,ty,q1⟩=>?_);obtain⟨h1,h2⟩:=PL I1 r1 ty;exact⟨T,id,pa,slot,UY,h1,h2,Calls.callWith_builtin rfl (PySem.evalArgs_none (hm pins s1 σ H1 x [] v [] Q I1 r1 .nil q1))⟩
theorem lZ(pa:PlainAttrs T)(slot:Slot T name id)(UY:typeOf (.builtin id)=pure (.type "method_descriptor"))(hm:Si X id r)(ho:PE X o to)(ha:PA X (e::es) t)
  (j9:attributeBase o name X.env (eval o X.env)=eval o X.env:=by rfl)
  (Rx:((backTo iu (starEach (e::es) X.env)).all (λx=> !x.1)&&(backToKw iu (keywordEach [] X.env)).all (λx=>x.1.isSome)
   &&decide ((e::es).length+([]:List Keyword).length+(if([]:List Keyword).isEmpty then 0 else 1)<30))=true:=by rfl)
  (jd:(apos.endLine==iu.line)=true:=by rfl) (hs:starEach (e::es) X.env=(false,eval e X.env)::starEach es X.env:=by rfl) (Ws:(backTo iu (starEach es X.env)).any (·.1)=false:=by rfl):
  PE X (.Call (.Attribute o name apos) (e::es) [] iu) (tBM X.K T r to t):=by
 intro pins s σ H Q I h;refine wpAny_Call_method_late j9 Rx jd rfl (c_ (ho pins s σ H _ I h) λv s1 ⟨x,H1,I1,r1,ty,q1⟩=>?_);obtain⟨h1,h2⟩:=PL I1 r1 ty;refine⟨T,id,pa,slot,UY,h1,h2,?_⟩;have hA:=ha iu pins s1 σ H1 _ I1 q1;rw[hs]at hA ⊢;refine Calls.callWith_builtin (by show(false||(backTo iu (starEach es X.env)).any (·.1))=false;rw[Ws]<;>rfl) (Calls.evalArgs_plain ?_);exact c_ hA λus s2 ⟨vs,H2,I2,r2,q2⟩=>hm pins s2 σ H2 x vs v us Q I2 r1 r2 q2
end
end L2
namespace L2
open PySem PySem.Spec PyProof.Rows
def MtM(X:Cx)(id:String)(r:V->List V->Hp->VK->Prop):Prop:=
 ∀(pins:List (Addr×Obj)) (s:Shared) (σ:St) (H:Hp) (x:V) (xs:List V) (v:Value) (us:List Value) (Q:VK),Inv X pins σ H s->RelV x v->Vals xs us->r x xs H Q->
  wpAny (model X.prog X.w) X.A (call (.builtin id) (v::us)) (EP X pins σ Q) X.xe s
theorem Vals.one:∀{x:V} {us:List Value},Vals [x] us->∃u,us=[u]/\RelV x u
 |_,_,.cons r .nil=>⟨_,rfl,r⟩
theorem Vals.zero:∀{us:List Value},Vals [] us->us=[]
 |_,.nil=>rfl
theorem Vals.dropLast(h:Vals xs us):Vals xs.dropLast us.dropLast:=by
 induction h with
 |nil=>exact .nil
 |cons r t ih=>
  cases t with
  |nil=>exact .nil
  |cons q t'=>exact .cons r ih
theorem Vals.reverse(h:Vals xs us):Vals xs.reverse us.reverse:=by
 induction h with
 |nil=>exact .nil
 |cons r t ih=>rw[List.reverse_cons,List.reverse_cons];exact Vals.append ih (.cons r .nil)
theorem K6{α:Type}(l:List α):l.eraseIdx (l.length - 1)=l.dropLast:=by
 induction l with
 |nil=>rfl
 |cons a r ih=>
  cases r with
  |nil=>rfl
  |cons b r=>
   have e:(a::b::r).length - 1=((b::r).length - 1)+1:=by
    have h1:(a::b::r).length=r.length+2:=rfl;have h2:(b::r).length=r.length+1:=rfl;omega
   rw[e,List.eraseIdx_cons_succ,ih]
   all_goals rfl
section
variable {X:Cx} {pins:List (Addr×Obj)} {σ:St} {H:Hp} {s:Shared} {l b:Addr} {xs ys zs:List V}
theorem Inv.TY{its its':List Value}{f:Array Value->Array Value}{t':Nat}(I:Inv X pins σ H s)(hH:H l=some (.lst xs))
  (e:s.heap.get? l=some {cls:=.type "list",data:=.seq its.toArray n}) (hf:f its.toArray=its'.toArray) (hv:Vals ys its') (hz:ys.length<=sizeLine):
  Inv X pins σ (upd H l (.lst ys)) {s with heap:=s.heap.update l (Obj.mapSeq f),toks:=t'}:=by
 have q:=PySem.IsL.update e f;rw[hf]at q;refine I.write (x:=l) (e:=l) (by rw[hH];exact trivial) (.inl rfl) (λb' u hb hu=>(Heap.get?_update_other s.heap (Obj.mapSeq f) (Ne.symm hb)).trans hu) ⟨_,q⟩ ?_;exact⟨hz,its',_,hv,q⟩
theorem Inv.aby{t':Nat}(I:Inv X pins σ H s)(hv:Vals ys its)(hz:ys.length<=sizeLine):
  Inv X pins σ (upd H s.heap.objs.size (.lst ys)) {s with heap:=s.heap.push {cls:=.type "list",data:=.seq its.toArray},toks:=t'}:=
 I.laid (λ_ _ q=>Heap.get?_push_of_some _ q) (aM _) ⟨hz,its,0,hv,Heap.get?_push_size _ rfl⟩
theorem Inv.fresh(I:Inv X pins σ H s):H s.heap.objs.size=none:=I.cM.fresh (aM _)
theorem Inv.KA(I:Inv X pins σ H s)(hH:H l=some (.lst xs)):xs.length<=sizeLine/\∃(its:List Value) (n:Nat),Vals xs its/\xs.length=its.length/\s.heap.get? l=some {cls:=.type "list",data:=.seq its.toArray n}:=by
 obtain⟨z,its,n,r,e⟩:=I.cM l _ hH;exact⟨z,its,n,r,r.length,e⟩
theorem Ij(h:n<=sizeLine):Builtin.List.listTooLong n=false:=by
 unfold Builtin.List.listTooLong;exact aQ (by omega)
end
section
variable {X:Cx}
inductive qD(x:V)(vs:List V)(H:Hp)(Q:VK):Prop
 |mk (l:Addr) (xs:List V) (y:V) (e:x= .ref l) (f:vs=[y]) (g:H l=some (.lst xs)) (h:xs.length<sizeLine) (q:Q .dt (upd H l (.lst (xs++[y])))):qD x vs H Q
theorem eA:MtM X "list.append" qD:=by
 intro pins s σ H x vs v us Q I rx rv h;obtain⟨l,xs,y,rfl,rfl,hH,hz,q⟩:=h;cases rx;obtain⟨u,rfl,ru⟩:=rv.one;obtain⟨z,its,n,r,hl,e⟩:=I.KA hH;refine call_meets F.slot_list_append ⟨_,e,rfl⟩ F.entry_list_append (F.args_list_append_2 _ _) (PySem.list_append l its.toArray n u (by rw[bL];omega)) ⟨e,?_⟩;refine⟨.dt,_,I.TY (its':=its++[u]) hH e (by simp) (r.append (.cons ru .nil)) ?_,rfl,q⟩;rw[ba,List.length_singleton];omega
inductive E9(x:V)(vs:List V)(H:Hp)(Q:VK):Prop
 |mk (l b:Addr) (xs zs:List V) (e:x= .ref l) (f:vs=[.ref b]) (g:H l=some (.lst xs)) (h:H b=some (.lst zs)) (i:xs.length+zs.length<=sizeLine) (q:Q .dt (upd H l (.lst (xs++zs)))):E9 x vs H Q
theorem NM:MtM X "list.extend" E9:=by
 intro pins s σ H x vs v us Q I rx rv h;obtain⟨l,b,xs,zs,rfl,rfl,hH,hB,hz,q⟩:=h;cases rx;obtain⟨u,rfl,ru⟩:=rv.one;cases ru;obtain⟨z,its,n,r,hl,e⟩:=I.KA hH;obtain⟨z2,qT,n2,r2,oJ,e2⟩:=I.KA hB;have hsz:its.toArray.size+qT.toArray.size<=sizeLine:=by rw[bL,bL];omega
 have Zh:¬(!its.toArray.isEmpty&&Builtin.List.listTooLong (its.toArray.size+qT.toArray.size))=true:=by
  rw[Ij hsz,Bool.and_false];exact az
 refine call_meets F.slot_list_extend ⟨_,e,rfl⟩ F.entry_list_extend (F.args_list_extend_2 _ _)
  (AutoSeq1.list_extend_list_list_0 l its.toArray n b qT.toArray n2 Zh (by rw[bL];omega) (by omega)) ⟨e,e2,?_⟩
 refine⟨.dt,_,I.TY (its':=its++qT) hH e (by simp) (r.append r2) ?_,rfl,q⟩;rw[ba];omega
inductive Yr(x:V)(vs:List V)(H:Hp)(Q:VK):Prop
 |mk (l:Addr) (xs:List V) (y:V) (e:x= .ref l) (f:vs=[]) (g:H l=some (.lst xs)) (h:xs[xs.length - 1]? =some y) (q:Q y (upd H l (.lst xs.dropLast))):Yr x vs H Q
theorem sv:MtM X "list.pop" Yr:=by
 intro pins s σ H x vs v us Q I rx rv h;obtain⟨l,xs,y,rfl,rfl,hH,hy,q⟩:=h;cases rx;have hus:=rv.zero;subst hus;obtain⟨z,its,n,r,hl,e⟩:=I.KA hH;obtain⟨u,hu,ru⟩:=r.get hy;have hy':its.toArray[its.toArray.size - 1]? =some u:=by
  show its.toArray[its.length - 1]? =some u;rw[<-Array.getElem?_toList,<-hl];exact hu
 refine call_meets F.slot_list_pop ⟨_,e,rfl⟩ F.entry_list_pop (F.args_list_pop_1 _) (MeetsSeq.list_pop_last l its.toArray n u hy' (by rw[bL];omega)) ⟨e,?_⟩;refine⟨y,_,I.TY (its':=its.dropLast) hH e ?_ r.dropLast ?_,ru,q⟩
 ·show its.toArray.eraseIdxIfInBounds (its.toArray.size - 1)=its.dropLast.toArray;rw[bL,List.eraseIdxIfInBounds_toArray,K6]
 ·rw[List.length_dropLast];omega
inductive Tf(x y:V)(H:Hp)(Q:VK):Prop
 |mk (l b:Addr) (xs zs:List V) (e:x= .ref l) (f:y= .ref b) (g:H l=some (.lst xs)) (h:H b=some (.lst zs)) (i:xs.length+zs.length<=sizeLine) (q:∀p,H p=none->Q (.ref p) (upd H p (.lst (xs++zs)))):Tf x y H Q
theorem gi:sZ X (binaryOp .Add) Tf:=by
 intro pins s σ H x y v u Q I rx ry h;obtain⟨l,b,xs,zs,rfl,rfl,hH,hB,hz,q⟩:=h;cases rx;cases ry;obtain⟨z,its,n,r,hl,e⟩:=I.KA hH;obtain⟨z2,qT,n2,r2,oJ,e2⟩:=I.KA hB;refine PySem.P.add_list e e2 ?_ (by rw[bL,bL];omega);have ea:its.toArray++qT.toArray=(its++qT).toArray:=by simp
 rw[ea];exact⟨.ref _,_,I.aby (t':=s.toks) (r.append r2) (by rw[ba];omega),rfl,q _ I.fresh⟩
end
section
variable {prog:Program} {w:World} {A:Around} {E:Value->Shared->Prop} {s:Shared}
set_option maxRecDepth 100000 in
end
section
variable {X:Cx}
end
end L2
namespace L2
open PySem PySem.Spec PyProof.Rows
theorem Vals.ints:∀{ns:List Int} {us:List Value},Vals (ns.map V.int) us->IntsAre us ns
 |[],us,h=>by
  rw[List.map_nil]at h;cases h;exact IntsAre.nil
 |n::ns,us,h=>by
  rw[cz]at h;cases h with
  |cons r t=>
   obtain⟨k,rfl⟩:=r;exact IntsAre.cons n k (Vals.ints t)
theorem Vals.abq(r:Vals [V.ref a] us):us=[Value.ref a]:=by
 cases r with
 |cons r t=>
  cases t;cases r;rfl
section
variable {prog:Program} {w:World} {A:Around} {E:Value->Shared->Prop} {s:Shared} {l:Addr} {its:List Value} {ns:List Int} {Q:Value->Shared->Prop}
theorem S2(hh:A.handled=none)(hl:s.heap.IsList l its.toArray)(hi:IntsAre its ns)
  (h:∀h' tk t',(∀b o,s.heap.get? b=some o->h'.get? b=some o)->Q (.int ns.sum t') {s with heap:=h',toks:=tk}):wpAny (model prog w) A (call (.builtin "sum") [.ref l]) Q E s:=by
 obtain⟨xs,e⟩:=hi.allInts.items;have hn:numsOf (intItems xs).toList=ns:=by rw[<-e];exact hi.numsOf
 rw[nums_intItems]at hn;rw[e]at hl;refine PySem.sum_intListG hh hl λh' tk t' hk=>?_
 have:=h h' tk t' hk;rw[preSum_eq,eD (by simp),hn];exact this
end
section
variable {X:Cx}
def abr(K:PySem.W.Frag):List V->Hp->VK->Prop:=λvs H Q=>∃(a:Addr) (ns:List Int),vs=[V.ref a]/\bp K H a (ns.map V.int)/\Q (.int ns.sum) H
theorem Ln(hc:X.calm=true):vp X (.builtin "sum") (abr X.K):=by
 intro pins s σ H vs us Q I r h;obtain⟨a,ns,rfl,hs,q⟩:=h;obtain⟨its,rv,hl,_⟩:=I.list hs;rw[Vals.abq r];exact S2 (I.ok.hd hc) hl.isList rv.ints λh' tk t' hk=>⟨.int _,H,I.kept hk,⟨_,rfl⟩,q⟩
end
section
variable {X:Cx}
end
section
variable {X:Cx}
end
section
variable {X:Cx}
end
mutual
inductive Dp(K:PySem.W.Frag)(H:Hp):V->PyData->Prop
 |dt:Dp K H .dt .none
 |bl (b:Bool):Dp K H (.bl b) (.bool b)
 |int (i:Int):Dp K H (.int i) (.int i)
 |str (x:Str):Dp K H (.str x) (.str x)
 |lst {a:Addr} {xs:List V} {ds:List PyData}:bp K H a xs->Br K H xs ds->Dp K H (.ref a) (.list ds)
 |tup {a:Addr} {xs:List V} {ds:List PyData}:rB K H a xs->Br K H xs ds->Dp K H (.ref a) (.tuple ds)
inductive Br(K:PySem.W.Frag)(H:Hp):List V->List PyData->Prop
 |nil:Br K H [] []
 |cons {v:V} {vs:List V} {d:PyData} {ds:List PyData}:Dp K H v d->Br K H vs ds->Br K H (v::vs) (d::ds)
end
section
variable {X:Cx} {pins:List (Addr×Obj)} {σ:St} {H:Hp} {s:Shared}
mutual
theorem Dp.reads(I:Inv X pins σ H s):∀(d:PyData) (v:V) (u:Value),Dp X.K H v d->RelV v u->∃as,Reads s.heap u d as
 | .none,_,_,h,r=>by
  cases h;cases r;exact⟨_,Reads.none⟩
 | .bool b,_,_,h,r=>by
  cases h;cases r;exact⟨_,Reads.bool b⟩
 | .int i,_,_,h,r=>by
  cases h;obtain⟨t,rfl⟩:=r;exact⟨_,Reads.int i t⟩
 | .str x,_,_,h,r=>by
  cases h;obtain⟨t,rfl⟩:=r;exact⟨_,Reads.str x t⟩
 | .list ds,_,_,h,r=>by
  cases h with
  |lst hs ha=>
   cases r;obtain⟨its,rv,⟨o,n,ho,hc,_,hd⟩,_⟩:=I.list hs;obtain⟨as,hr⟩:=Dp.readsAll I ds _ its ha rv;exact⟨_,Reads.list ho hc hd hr⟩
 | .tuple ds,_,_,h,r=>by
  cases h with
  |tup hs ha=>
   cases r;obtain⟨its,rv,⟨o,ho,hc,n,hd⟩,_⟩:=I.tuple hs;obtain⟨as,hr⟩:=Dp.readsAll I ds _ its ha rv;exact⟨_,Reads.tuple ho hc hd hr⟩
 | .dict _,_,_,h,_=>by cases h
theorem Dp.readsAll(I:Inv X pins σ H s):∀(ds:List PyData) (vs:List V) (us:List Value),Br X.K H vs ds->Vals vs us->∃as,ReadsAll s.heap us ds as
 |[],_,_,h,r=>by
  cases h;cases r;exact⟨_,ReadsAll.nil⟩
 |d::ds,_,_,h,r=>by
  cases h with
  |cons h1 h2=>
   cases r with
   |cons r1 r2=>
    obtain⟨as,q1⟩:=Dp.reads I d _ _ h1 r1;obtain⟨bs,q2⟩:=Dp.readsAll I ds _ _ h2 r2;exact⟨_,ReadsAll.cons q1 q2⟩
end
end
section
variable {X:Cx}
def abt(K:PySem.W.Frag):R2:=λx y H Q=>∃d e,Dp K H x d/\Dp K H y e/\SeqAt.shaped d=true/\SeqAt.shaped e=true/\Q (.bl (!PyData.eqv d e)) H
theorem VW(hu:X.A.units+64<cLine):sZ X (compareOp .NotEq) (abt X.K):=by
 intro pins s σ H x y v u Q I rx ry h;obtain⟨d,e,hd,he,sd,se,q⟩:=h;obtain⟨as,r1⟩:=Dp.reads I d x v hd rx;obtain⟨bs,r2⟩:=Dp.reads I e y u he ry;exact SeqAt.compareNe_shaped r1 r2 sd se hu ⟨.bl _,H,I,rfl,q⟩
end
end L2
namespace L2
open PySem PySem.Spec PyProof.Rows
abbrev Sq(h:Heap)(c:Addr)(v:Option Value):Prop:=h.IsCell c v
def abp(scope sc:Scope):Scope:=
 {scope with names:=scope.names.map λ(n,k)=>if(k== .free&&sc.kind== .function&&sc.names.lookup n==some .cell)then(n,.cell)else(n,k)}
def cX(cells:List (Str×Addr)):List (Str×NameKind)->List (Str×Addr)->List (Str×Addr)
 |[],acc=>acc
 |(n,k)::r,acc=>if k== .free then cX cells r ((n,(cells.lookup n).getD 0)::acc)else cX cells r acc
theorem vf(env:Env)(f:Str×NameKind->List (Str×Addr)->Sem (ForInStep (List (Str×Addr))))
  (hf:∀n k c,f (n,k) c=if k== .free then(do let a<-cellOf env n;pure (.yield ((n,a)::c)))else pure (.yield c)):
  ∀(names:List (Str×NameKind)) (acc:List (Str×Addr)),(∀y∈names,y.2= .free->∃c,env.cells.lookup y.1=some c)->forIn names acc f=pure (cX env.cells names acc)
 |[],acc,_=>by rw[List.forIn_nil];rfl
 |(n,k)::r,acc,h=>by
  rw[List.forIn_cons,hf];have ih:=λacc=>vf env f hf r acc λy hy=>h y (aS _ hy)
  unfold cX;by_cases hk:(k==NameKind.free)=true
  ·rw[ai hk,ai hk];obtain⟨c,hc⟩:=h (n,k) bB (by simpa using hk);have e:cellOf env n=pure c:=by unfold cellOf;rw[hc]
   rw[e];have e2:(env.cells.lookup n).getD 0=c:=by rw[hc];rfl
   rw[e2];exact ih _
  ·rw[ah hk,ah hk];exact ih _
theorem Lp{scope:Scope}{env:Env}(h:∀y∈scope.names,y.2= .free->∃c,env.cells.lookup y.1=some c):closureFor scope env=pure (cX env.cells scope.names []):=by
 simp only [closureFor];rw[vf env _ (λn k c=>rfl) scope.names [] h];rfl
theorem mem_lookup{α:Type}:∀{l:List (Str×α)} {n:Str} {c:α},(n,c)∈l->∃c',l.lookup n=some c'
 |(k,v)::r,n,c,h=>by
  rw[List.lookup_cons];cases hb:n==k with
  |true=>exact⟨_,rfl⟩
  |false=>
   rcases List.mem_cons.mp h with e|h
   ·cases e;simp at hb
   ·exact mem_lookup h
theorem kQ:∀{names:List (Str×NameKind)} {acc:List (Str×Addr)} {n:Str} {c:Addr},(n,c)∈cX cells names acc->(n,c)∈acc\/((n,.free)∈names/\c=(cells.lookup n).getD 0)
 |[],_,_,_,h=>.inl h
 |(m,k)::r,acc,n,c,h=>by
  unfold cX at h;split at h
  ·rename_i hk;have hk:k= .free:=by simpa using hk
   rcases kQ h with h|⟨h1,h2⟩
   ·rcases List.mem_cons.mp h with e|h
    ·cases e;exact .inr ⟨hk▸bB,rfl⟩
    ·exact .inl h
   ·exact .inr ⟨aS _ h1,h2⟩
  ·rcases kQ h with h|⟨h1,h2⟩
   ·exact .inl h
   ·exact .inr ⟨aS _ h1,h2⟩
theorem pY{cells:List (Str×Addr)}:∀{names:List (Str×NameKind)} {acc:List (Str×Addr)} {p:Str×Addr},p∈acc->p∈cX cells names acc
 |[],_,_,h=>h
 |(m,k)::r,acc,p,h=>by
  unfold cX;split
  ·exact pY (aS _ h)
  ·exact pY h
theorem pX{cells:List (Str×Addr)}:∀{names:List (Str×NameKind)} {acc:List (Str×Addr)} {n:Str},(n,.free)∈names->(n,(cells.lookup n).getD 0)∈cX cells names acc
 |(m,k)::r,acc,n,h=>by
  unfold cX;rcases List.mem_cons.mp h with e|h
  ·cases e;exact pY bB
  ·split
   ·exact pX h
   ·exact pX h
theorem ma:∀{names:List (Str×NameKind)} {h:Heap} {acc:List (Str×Addr)} {x:Str} {c:Addr},(x,c)∈cellsFrom h.objs.size names acc->
  (x,c)∈acc\/((x,.cell)∈names/\h.objs.size<=c/\Sq (pushCells h names) c none)
 |[],_,_,_,_,h=>.inl h
 |(n,k)::r,h,acc,x,c,hm=>by
  unfold cellsFrom at hm;unfold pushCells;split at hm
  ·rename_i hk;rw[ai hk];have hk:k= .cell:=by simpa using hk
   rw[<-Heap.size_push h {cls:=.type "cell",data:=.cell none}]at hm;rcases ma hm with hm|⟨h1,h2,h3⟩
   ·rcases List.mem_cons.mp hm with e|hm
    ·cases e;exact .inr ⟨hk▸bB,aM _,_,pushCells_keeps r _ _ _ (Heap.get?_push_size _ rfl),rfl⟩
    ·exact .inl hm
   ·rw[Heap.size_push]at h2;exact .inr ⟨aS _ h1,Nat.le_of_succ_le h2,h3⟩
  ·rename_i hk;rw[ah hk];rcases ma hm with hm|⟨h1,h2,h3⟩
   ·exact .inl hm
   ·exact .inr ⟨aS _ h1,h2,h3⟩
theorem qH:∀{names:List (Str×NameKind)} {n:Nat} {acc:List (Str×Addr)} {p:Str×Addr},p∈acc->p∈cellsFrom n names acc
 |[],_,_,_,h=>h
 |(m,k)::r,n,acc,p,h=>by
  unfold cellsFrom;split
  ·exact qH (aS _ h)
  ·exact qH h
theorem wX:∀{names:List (Str×NameKind)} {n:Nat} {acc:List (Str×Addr)} {x:Str},(x,.cell)∈names->∃c,(x,c)∈cellsFrom n names acc
 |(m,k)::r,n,acc,x,h=>by
  unfold cellsFrom;rcases List.mem_cons.mp h with e|h
  ·cases e;exact⟨n,qH bB⟩
  ·split
   ·exact wX h
   ·exact wX h
theorem wW:∀{names:List (Str×NameKind)} {h:Heap} {acc:List (Str×Addr)} {x y:Str} {c:Addr},(∀p∈acc,p.2<h.objs.size)->(∀x y c,(x,c)∈acc->(y,c)∈acc->x=y)->
  (x,c)∈cellsFrom h.objs.size names acc->(y,c)∈cellsFrom h.objs.size names acc->x=y
 |[],_,_,_,_,_,_,hi,h1,h2=>hi _ _ _ h1 h2
 |(n,k)::r,h,acc,x,y,c,hl,hi,h1,h2=>by
  unfold cellsFrom at h1 h2;split at h1
  ·rename_i hk;rw[ai hk]at h2;rw[<-Heap.size_push h {cls:=.type "cell",data:=.cell none}]at h1 h2;refine wW (h:=h.push _) (λp hp=>?_) (λx y c a b=>?_) h1 h2
   ·rw[Heap.size_push];rcases List.mem_cons.mp hp with rfl|hp
    ·exact Nat.lt_succ_self _
    ·exact Nat.lt_succ_of_lt (hl p hp)
   ·rcases List.mem_cons.mp a with e|a<;>rcases List.mem_cons.mp b with e'|b
    ·cases e;cases e';rfl
    ·cases e;exact absurd (hl _ b) (Nat.lt_irrefl _)
    ·cases e';exact absurd (hl _ a) (Nat.lt_irrefl _)
    ·exact hi _ _ _ a b
  ·rename_i hk;rw[ah hk]at h2;exact wW hl hi h1 h2
theorem Io{E:Value->Shared->Prop}{s:Shared}{code:Value}{builtins:Addr}{Q:Env->Shared->Prop}
  (h:Q (newEnv scope s.heap.objs.size globals (cellsFrom (s.heap.objs.size+1) scope.names closure) qual func code (some around) builtins)
   {s with heap:=pushCells (s.heap.push {cls:=.type "dict",data:=.dict #[]}) scope.names}):
  wpAny M A (newFunctionEnv scope globals closure [] qual func code (some around) builtins) Q E s:=by
 simp only [newFunctionEnv,Option.isSome_some,if_true];refine wpAny_bind (wpAny_alloc ?_);refine wpAny_bind (wpAny_layCells _ (λn k c=>rfl) scope.names closure _ _ ?_);rw[show({s with heap:=s.heap.push {cls:=.type "dict",data:=.dict #[]}}:Shared).heap.objs.size=s.heap.objs.size+1 from Heap.size_push ..];rw[List.forIn_nil];exact wpAny_bind (wpAny_pure (wpAny_pure h))
theorem pQ{sc:Scope}:∀{names:List (Str×NameKind)} {x:Str} {k:NameKind},
  (names.map λ(n,k)=>if(k==NameKind.free&&sc.kind== .function&&sc.names.lookup n==some .cell)then(n,NameKind.cell)else(n,k)).lookup x=some k->
  ∃k',names.lookup x=some k'/\(k=k'\/(k'= .free/\k= .cell))
 |[],_,_,h=>by simp at h
 |(n,k₀)::r,x,k,h=>by
  have ih:= @pQ sc r x k;have h':List.lookup x ((if(k₀==NameKind.free&&sc.kind== .function&&sc.names.lookup n==some .cell)=true then(n,NameKind.cell)else(n,k₀))::(r.map _))=some k:=h;cases hx:x==n with
  |true=>
   simp only [List.lookup_cons,hx];by_cases hc:(k₀==NameKind.free&&sc.kind== .function&&sc.names.lookup n==some .cell)=true
   ·rw[ai hc]at h';simp only [List.lookup_cons,hx]at h';cases h';simp only [bj,beq_iff_eq]at hc;exact⟨k₀,rfl,.inr ⟨hc.1.1,rfl⟩⟩
   ·rw[ah hc]at h';simp only [List.lookup_cons,hx]at h';cases h';exact⟨_,rfl,.inl rfl⟩
  |false=>
   simp only [List.lookup_cons,hx];by_cases hc:(k₀==NameKind.free&&sc.kind== .function&&sc.names.lookup n==some .cell)=true
   ·rw[ai hc]at h';simp only [List.lookup_cons,hx]at h';exact ih h'
   ·rw[ah hc]at h';simp only [List.lookup_cons,hx]at h';exact ih h'
structure Jz(N:List Str)(sc scope:Scope)(own:List (Str×Nat)):Prop where
 kind:scope.kind= .function
 uniq:∀y∈scope.names,scope.names.lookup y.1=some y.2
 ix:∀p∈own,N[p.2]? =some p.1
 free:∀y∈scope.names,y.2= .free->sc.names.lookup y.1=some .cell\/sc.names.lookup y.1=some .free
 own:∀y∈scope.names,y.2= .local\/y.2= .cell->y.1∈own.map (·.1)\/y.1 ∉ N
def wipe(σ:St):List Nat->St
 |[]=>σ
 |v::vs=>(wipe σ vs).set v none
theorem oS(σ:St):∀vs:List Nat,(wipe σ vs).length=σ.length
 |[]=>rfl
 |v::vs=>by unfold wipe;rw[List.length_set,oS σ vs]
theorem vx:∀{vs:List Nat},(wipe σ vs)[i]? =some (some x)->σ[i]? =some (some x)/\i ∉ vs
 |[],h=>⟨h,by simp⟩
 |v::vs,h=>by
  unfold wipe at h;by_cases hi:v=i
  ·subst hi;by_cases hv:v<(wipe σ vs).length
   ·rw[gr hv]at h;cases h
   ·rw[List.getElem?_eq_none (by simpa using hv)]at h;cases h
  ·rw[List.getElem?_set_ne hi]at h;obtain⟨h1,h2⟩:=vx h;exact⟨h1,by simp only [tE,not_or];exact⟨λe=>hi e.symm,h2⟩⟩
abbrev Cx.GF(X:Cx)(s:Shared)(H:Hp)(scope:Scope)(gU:Env)(fp:List Addr):Cx:={X with BS:=s,Z6:=H,env:=gU,outer:=X.stack,ex:=fp,fn:=λx=>scope.names.lookup x==some .cell,pn:=[],xe:=λ_ _=>False}
section
variable {X:Cx} {pins:List (Addr×Obj)} {σ:St} {H:Hp} {s:Shared}
theorem Jp(I:Inv X pins σ H s)(ok:Jz X.N X.env.scope scope own)(hN:X.N.Nodup)(U3:∀b∈fp,Bp X pins H b/\b<s.heap.objs.size):
  Inv (X.GF s H scope (compEnvC scope (cellsFrom (s.heap.objs.size+1) scope.names (cX X.env.cells scope.names [])) s.heap.objs.size X.env) fp) [] (wipe σ (own.map (·.2))) H {s with heap:=pushCells (s.heap.push {cls:=.type "dict",data:=.dict #[]}) scope.names}:=by
 have D9:∀y∈scope.names,y.2= .free->∃c,X.env.cells.lookup y.1=some c:=λy hy e=>by
  rcases ok.free y hy e with k|k
  ·exact I.ok.has _ (.inl k)
  ·exact I.ok.has _ (.inr k)
 generalize IE:compEnvC scope (cellsFrom (s.heap.objs.size+1) scope.names (cX X.env.cells scope.names [])) s.heap.objs.size X.env=gU;have kp:∀b o,s.heap.get? b=some o->(pushCells (s.heap.push {cls:=.type "dict",data:=.dict #[]}) scope.names).get? b=some o:=λb o e=>pushCells_keeps _ _ _ _ (Heap.get?_push_of_some _ e)
 have hL:gU.locals=s.heap.objs.size:=by rw[<-IE];rfl
 have RA:gU.cells=cellsFrom (s.heap.objs.size+1) scope.names (cX X.env.cells scope.names []):=by rw[<-IE];rfl
 have hsc:gU.scope=abp scope X.env.scope:=by rw[<-IE];rfl
 rw[<-Heap.size_push s.heap {cls:=.type "dict",data:=.dict #[]}]at RA;have cm:∀{y c},(y,c)∈cX X.env.cells scope.names []->X.env.cells.lookup y=some c/\c<s.heap.objs.size:=λ{y c} hm=>by
  rcases kQ hm with hm|⟨h1,rfl⟩
  ·cases hm
  ·obtain⟨c,hc⟩:=D9 _ h1 rfl;rw[hc];obtain⟨w,z⟩:=I.cell _ _ hc;exact⟨rfl,z.lt⟩
 have mem:∀{y c},gU.cells.lookup y=some c->(X.env.cells.lookup y=some c/\c<s.heap.objs.size)\/(s.heap.objs.size+1<=c/\Sq (pushCells (s.heap.push {cls:=.type "dict",data:=.dict #[]}) scope.names) c none):=λ{y c} e=>by
  rw[RA]at e;rcases ma (PySem.mem_of_lookup e)with hm|⟨_,h2,h3⟩
  ·exact .inl (cm hm)
  ·rw[Heap.size_push]at h2;exact .inr ⟨h2,h3⟩
 have look:∀{y},scope.names.lookup y=some .free->∃c,gU.cells.lookup y=some c/\X.env.cells.lookup y=some c:=λ{y} hl=>by
  have hy:(y,NameKind.free)∈scope.names:=PySem.mem_of_lookup hl;obtain⟨c',e'⟩:=mem_lookup (qH (names:=scope.names) (n:=(s.heap.push {cls:=.type "dict",data:=.dict #[]}).objs.size) (pX (cells:=X.env.cells) (acc:=[]) hy));rw[<-RA]at e';refine⟨c',e',?_⟩;rw[RA]at e';rcases ma (PySem.mem_of_lookup e')with hm|⟨h1,_,_⟩
  ·exact(cm hm).1
  ·have:=ok.uniq _ h1;rw[hl]at this;cases this
 have okB:(X.GF s H scope gU fp).Ok:=by
  refine⟨I.ok.mod,by show gU.scope.kind=_;rw[hsc];exact ok.kind,by show gU.globals=_;rw[<-IE];exact I.ok.glob,by show gU.builtins=_;rw[<-IE];exact I.ok.blt,by show s.heap.objs.size<=gU.locals;rw[hL];exact aM _,
   λy z c e1 e2=>?_,λy hy=>?_,λy c z e=>?_,I.ok.hd,I.ok.frames,.inl rfl,λb hb=>⟨?_,λy c e z=>?_⟩,I.bs,a8 I.ok.R8 I.sz,λb o e hb=>?_,λb hb z=>?_,I.stack,I.qt⟩
  ·have e1:gU.cells.lookup y=some c:=e1;have e2:gU.cells.lookup z=some c:=e2;rw[RA]at e1 e2;refine wW (λp hp=>?_) (λy z c a b=>I.ok.inj y z c (cm a).1 (cm b).1) (PySem.mem_of_lookup e1) (PySem.mem_of_lookup e2);rw[Heap.size_push];exact Nat.lt_succ_of_lt (cm (y:=p.1) (c:=p.2) hp).2
  ·show ∃c,gU.cells.lookup y=some c;have key:∀k,gU.kindOf y=some k->(k= .cell\/k= .free)->∃c,gU.cells.lookup y=some c:=λk hk AV=>by
    unfold Env.kindOf at hk;rw[hsc]at hk;obtain⟨k',e,r⟩:=pQ hk;have:k'= .cell\/k'= .free:=by
     rcases r with rfl|⟨rfl,_⟩
     ·exact AV
     ·exact .inr rfl
    rcases this with rfl|rfl
    ·obtain⟨c,hm⟩:=wX (n:=(s.heap.push {cls:=.type "dict",data:=.dict #[]}).objs.size) (acc:=cX X.env.cells scope.names []) (PySem.mem_of_lookup e);obtain⟨c',e'⟩:=mem_lookup hm;exact⟨c',by rw[RA];exact e'⟩
    ·obtain⟨c,h1,_⟩:=look e;exact⟨c,h1⟩
   rcases hy with hy|hy
   ·exact key _ hy (.inl rfl)
   ·exact key _ hy (.inr rfl)
  ·have z:(scope.names.lookup y==some NameKind.cell)=true:=z;have z:scope.names.lookup y=some .cell:=by simpa using z
   have e:gU.cells.lookup y=some c:=e;rw[RA]at e;rcases ma (PySem.mem_of_lookup e)with hm|⟨_,h2,_⟩
   ·rcases kQ hm with hm|⟨h1,_⟩
    ·cases hm
    ·have q:=ok.uniq _ h1;rw[z]at q;cases q
   ·rw[Heap.size_push]at h2;exact Nat.le_of_succ_le h2
  ·show b≠gU.locals;rw[hL];exact Nat.ne_of_lt (U3 b hb).2
  ·have e:gU.cells.lookup y=some c:=e;rcases mem e with⟨h1,_⟩|⟨h1,_⟩
   ·exact(U3 b hb).1.2.2.2.2.1 y c h1 z
   ·have h2:s.heap.objs.size+1<=b:=by rw[<-z];exact h1
    exact absurd (dh (U3 b hb).2 (Nat.le_of_succ_le h2)) (Nat.lt_irrefl _)
  ·rcases(U3 b hb).1.2.2.2.1 with z|z
   ·exact I.ok.Kp b o e z
   ·exact absurd (dh (Heap.lt_size e) (a8 I.ok.R8 z)) (Nat.lt_irrefl _)
  ·rcases List.mem_cons.mp (I.JQ b z)with z|z
   ·exact(U3 b hb).1.2.1 z
   ·exact(U3 b hb).1.2.2.1 z
 refine⟨okB,rfl,I.bare,Un.kept kp,⟨λ_=>none,?_,λi y av e1 e2 e3=>?_⟩,λy c e=>?_,?_,λy c e=>?_,λp hp=>?_,I.cM.kept kp,by rw[oS];exact I.len⟩
 ·show Heap.Ns _ gU.locals _;rw[hL];exact Heap.Ns.keeps (Heap.Ns.new ..) λb o e=>pushCells_keeps _ _ _ _ e
 ·obtain⟨e2,fR⟩:=vx e2;have KO:scope.names.lookup y=some .free/\(gU.kindOf y=some .cell\/gU.kindOf y=some .free):=by
   have key:∀k,gU.scope.names.lookup y=some k->k= .local\/k= .cell\/k= .free->scope.names.lookup y=some .free/\(gU.kindOf y=some .cell\/gU.kindOf y=some .free):=λk hk AV=>by
    have hk0:=hk;rw[hsc]at hk;obtain⟨k',e,r⟩:=pQ hk;have no:¬(k'= .local\/k'= .cell):=λhh=>by
     rcases ok.own _ (PySem.mem_of_lookup e) hh with e'|e'
     ·obtain⟨p,hp,hpy⟩:=List.mem_map.mp e';have e3:=ok.ix p hp;have:p.1=y:=hpy;rw[this]at e3;exact fR (List.mem_map.mpr ⟨p,hp,uH hN e3 e1⟩)
     ·exact e' (d7 e1)
    rcases r with rfl|⟨rfl,rfl⟩
    ·rcases AV with rfl|rfl|rfl
     ·exact absurd (.inl rfl) no
     ·exact absurd (.inr rfl) no
     ·exact⟨e,.inr hk0⟩
    ·exact⟨e,.inl hk0⟩
   have e3:XH gU.scope y:=e3;rcases e3 with e3|e3|e3
   ·exact key _ e3 (.inl rfl)
   ·exact key _ e3 (.inr (.inl rfl))
   ·exact key _ e3 (.inr (.inr rfl))
  obtain⟨m,hn,hl⟩:=I.loc;have abK:XH X.env.scope y:=(ok.free _ (PySem.mem_of_lookup KO.1) rfl).elim (λk=>.inr (.inl k)) (λk=>.inr (.inr k));obtain⟨w,r,q⟩:=hl i y av e1 e2 abK;refine⟨w,r,.inr ⟨KO.2,?_⟩⟩;obtain⟨c,h1,h2⟩:=look KO.1;rcases q with⟨k,_⟩|⟨_,c',e',z⟩
  ·have k:X.env.scope.names.lookup y=some .local:=k;rcases ok.free _ (PySem.mem_of_lookup KO.1) rfl with k'|k'<;>rw[show X.env.scope.names.lookup y=_ from k']at k<;>cases k
  ·rw[h2]at e';cases e';exact⟨c,h1,z.keeps kp⟩
 ·have e:gU.cells.lookup y=some c:=e;rcases mem e with⟨h1,_⟩|⟨_,z⟩
  ·obtain⟨w,z⟩:=I.cell y c h1;exact⟨w,z.keeps kp⟩
  ·exact⟨_,z⟩
 ·show H gU.locals=none;rw[hL];exact I.cM.fresh (aM _)
 ·have e:gU.cells.lookup y=some c:=e;rcases mem e with⟨h1,_⟩|⟨h1,_⟩
  ·exact I.jv y c h1
  ·exact I.cM.fresh (Nat.le_of_succ_le h1)
 ·exact absurd (show p∈([]:List (Addr×Obj))++[]from hp) (by simp)
theorem Xa{E:Value->Shared->Prop}{Q:Value->Shared->Prop}(I:Inv X pins σ H s)(hD:H D=some (.lst xs))(hz:xs.length<sizeLine)(r:RelV y v)
  (h:∀s',Inv X pins σ (upd H D (.lst (xs++[y]))) s'->Q .none s'):wpAny (model X.prog X.w) X.A (call (.builtin "list.append") [.ref D,v]) Q E s:=by
 obtain⟨T5,its,n,ri,e⟩:=I.cM D _ hD;have hl:=ri.length;refine append_at (hsz:=by rw[bL];omega) e λh' sb JD=>?_
 refine h {s with heap:=h'} (I.write (t':=s.toks) (by rw[hD];trivial) (.inl rfl) (λb u hb q=>(sb.2 b hb).trans q) ⟨_,JD⟩ ⟨by rw[ba];exact hz,its++[v],n+1,ri.append (.cons r .nil),?_⟩);rw[JD];simp
def ZX(X:Cx)(ifs:List Expr)(t:TT):Prop:=
 ∀(pins:List (Addr×Obj)) (s:Shared) (σ:St) (H:Hp) (Q:Bool->Hp->Prop),Inv X pins σ H s->t σ H Q->
  wpAny (model X.prog X.w) X.A (forIn ifs true λc r=>if r=true then do let ok<-isTrue c X.env (eval c X.env);pure (ForInStep.yield ok)else pure (ForInStep.yield r)) (TP X pins σ Q) X.xe s
def Vo:TT:=λ_ H Q=>Q true H
theorem iT:ZX X [] Vo:=λ_ _ _ H _ I h=>wpAny_tests_nil ⟨H,I,h⟩
theorem L5(h:PT X c t):ZX X [c] t:=λpins s σ H Q I hw=>wpAny_tests_one (h pins s σ H Q I hw)
end
theorem M6{α:Type}{t:Sem α}{Q Q':α->Shared->Prop}{E:Value->Shared->Prop}(h:wpAny M A t Q (λ_ _=>False) s)(hQ:∀a s,Q a s->Q' a s):wpAny M A t Q' E s:=wpAny_mono h hQ λ_ _ z=>False.elim z
theorem Gr{R:Result->Shared->Prop}(I:Nat->Shared->Prop)
  (turn:∀n s,I n s->wpAny (model prog w) A (pyNext it) (λr s₁=>match r with
   |none=>R (.ok .next) s₁
   |some v=>wpAny (model prog w) A (letOwnedTupleGo target it v) (λ_ s₁'=>wpAny (model prog w) A (assign target env v) (λ_ s₂=>
     wpAny (model prog w) A (forIn ifs true λc r=>if r=true then do let ok<-isTrue c env (eval c env);pure (ForInStep.yield ok)else pure (ForInStep.yield r)) (λok s₃=>
      if ok=true then wpAny (model prog w) A (eval elt env) (λx s₄=>
       wpAny (model prog w) A (call (.builtin "list.append") [acc,x]) (λ_ s₅=>∃m,m<n/\I m s₅) (notedBy (model prog w) A env λe s'=>R (.error e) s') s₄) (notedBy (model prog w) A env λe s'=>R (.error e) s') s₃
      else ∃m,m<n/\I m s₃) (notedBy (model prog w) A env λe s'=>R (.error e) s') s₂) (notedBy (model prog w) A env λe s'=>R (.error e) s') s₁') (notedBy (model prog w) A env λe s'=>R (.error e) s') s₁) (notedBy (model prog w) A env λe s'=>R (.error e) s') s)
  (n:Nat) (h:I n s):
  codeAny (model prog w) A (.compLoop (.ListComp elt [⟨target,iter,ifs,0⟩] scope pos) 0 it acc env) R s:=by
 refine codeAny_loop rfl I (λn s hI=>?_) n h;show wpAny _ A ((compTurn (.ListComp elt [⟨target,iter,ifs,0⟩] scope pos) 0 it acc env).onRaise (λx=>do noteFrame x env;theTreesLotGoes x)) _ _ s;refine wpAny_noted ?_;rw[compTurn_list];refine wpAny_bind (wpAny_standAt (wpAny_bind (wpAny_mono (turn n s hI) (λr s₁ h₁=>?_) λ_ _ h'=>h')));cases r with
 |none=>exact wpAny_pure h₁
 |some v=>
  refine wpAny_bind (wpAny_mono h₁ (λ_ s₁' h₁'=>?_) λ_ _ h'=>h');refine wpAny_bind (wpAny_mono h₁' (λ_ s₂ h₂=>wpAny_bind (wpAny_mono h₂ (λok s₃ h₃=>?_) λ_ _ h'=>h')) λ_ _ h'=>h');cases ok with
  |false=>exact wpAny_pure ⟨rfl,h₃⟩
  |true=>
   exact wpAny_bind (wpAny_bind (wpAny_mono h₃ (λx s₄ h₄=>wpAny_bind (wpAny_mono h₄ (λ_ s₅ h₅=>wpAny_pure (wpAny_pure ⟨rfl,h₅⟩)) λ_ _ h'=>h')) λ_ _ h'=>h'))
section
variable {X:Cx}
def tLc(wi:TI)(g:TG)(tt:TT)(te:TE)(vs:List Nat):TE:=λσ H Q=>wi σ H λJ H1=>∀D,H1 D=none->∃W:Nat->Nat->Hp->Prop,(∃m,W 0 m (upd H1 D (.lst [])))/\∀i m H,W i m H->
 (J.stop i H/\Q (.ref D) H)\/(J.go i H/\∃Nx:Hp->Prop,(∀H',Nx H'->∃m',m'<m/\W (i+1) m' H')/\∀x H',J.Pk i H x H'->g x (wipe σ vs) H' λσ2 H2=>wipe σ2 vs=wipe σ vs/\tt σ2 H2 λb H3=>
  if b=true then te σ2 H3 λy H4=>∃acc,H4 D=some (.lst acc)/\acc.length<sizeLine/\Nx (upd H4 D (.lst (acc++[y])))else Nx H3)
theorem Mj{pins:List (Addr×Obj)}{s:Shared}{σ:St}{H:Hp}{Q:VK}{elt tg iter:Expr}{ifs:List Expr}{scope:Scope}{own:List (Str×Nat)}{pos pos':Pos}{wi:TI}{g:TG}{tt:TT}{te:TE}{use:Option (Value->Sem Unit)}{Qf:Value->Shared->Prop}
  (hc:X.calm=true) (hN:X.N.Nodup) (I:Inv X pins σ H s) (hi:PI X tg iter wi) (ok:Jz X.N X.env.scope scope own)
  (hg:∀(s:Shared) (H:Hp) (C:Addr) (cl:List (Str×Addr)) (fp:List Addr),PG (X.GF s H scope (compEnvC scope cl C X.env) fp) tg g) (ht:∀(s:Shared) (H:Hp) (C:Addr) (cl:List (Str×Addr)) (fp:List Addr),ZX (X.GF s H scope (compEnvC scope cl C X.env) fp) ifs tt)
  (he:∀(s:Shared) (H:Hp) (C:Addr) (cl:List (Str×Addr)) (fp:List Addr),PE (X.GF s H scope (compEnvC scope cl C X.env) fp) elt te) (hs:∀x,foldedSetIterable iter X.env x=pure x)
  (h:tLc wi g tt te (own.map (·.2)) σ H Q)
  (hRR:∀D C s' m H',Inv X pins σ H' s'->Q (.ref D) H'->s'.heap.Ns C m->Bp X pins H' C->compPost (model X.prog X.w) X.A X.xe use Qf (.ref D) C (.ok .next) s'):
  wpAny (model X.prog X.w) X.A (comprehension (.ListComp elt [⟨tg,iter,ifs,0⟩] scope pos) scope X.env pos' (newList []) false (eval iter X.env) use) Qf X.xe s:=by
 have D9:∀y∈scope.names,y.2= .free->∃c,X.env.cells.lookup y.1=some c:=λy hy e=>by
  rcases ok.free y hy e with k|k
  ·exact I.ok.has _ (.inl k)
  ·exact I.ok.has _ (.inr k)
 refine wpAny_comprehension_free (use:=use) rfl hs (Lp D9) ok.kind (λy hy e=>by rw[ok.uniq y hy,e])
  (c_ (hi pins s σ H _ I h) λxv s1 hx=>c_ hx λitv s2 h2=>?_)
 obtain⟨it,fp,tn,J,H2,e,I2,T,P9,f2,q⟩:=h2;subst e;refine wpAny_newObj_type (Io ?_) (by show 0<=sizeLine;decide);generalize hD:s2.heap.objs.size=D;have hDn:H2 D=none:=I2.cM.fresh (yz hD);obtain⟨W,⟨m0,w0⟩,turn⟩:=q D hDn;generalize Y6:({s2 with heap:=s2.heap.push {cls:=.type "list",data:=.seq ([]:List Value).toArray}}:Shared)=s3;have I3:Inv X pins σ (upd H2 D (.lst [])) s3:=by
  rw[<-Y6];refine I2.laid (t':=s2.toks) (λb o e=>Heap.get?_push_of_some _ e) (yz hD) ⟨bw _,[],0,.nil,?_⟩;rw[<-hD];exact Heap.get?_push_size _ rfl
 have h3:s3.heap=s2.heap.push {cls:=.type "list",data:=.seq ([]:List Value).toArray}:=by rw[<-Y6]
 have sz:∀b∈fp,b<s2.heap.objs.size:=λb hb=>by
  obtain⟨o,e,_⟩:=T.obj _ _ P9 b hb;exact Heap.lt_size e
 have f3:∀b∈fp,Bp X pins (upd H2 D (.lst [])) b/\b<s3.heap.objs.size:=λb hb=>by
  have eP:=sz b hb;refine⟨⟨?_,(f2 b hb).2⟩,by rw[h3,Heap.size_push];exact Nat.lt_succ_of_lt eP⟩;rw[ao (by rw[<-hD];exact Nat.ne_of_lt eP)];exact(f2 b hb).1
 have st3:tn 0 s3.heap:=T.keep _ _ _ P9 λb _ o e=>by rw[h3];exact Heap.get?_push_of_some _ e
 have I4:=Jp I3 ok hN f3;have pg:=hg s3 (upd H2 D (.lst [])) s3.heap.objs.size (cellsFrom (s3.heap.objs.size+1) scope.names (cX X.env.cells scope.names [])) fp;have pt:=ht s3 (upd H2 D (.lst [])) s3.heap.objs.size (cellsFrom (s3.heap.objs.size+1) scope.names (cX X.env.cells scope.names [])) fp;have pe:=he s3 (upd H2 D (.lst [])) s3.heap.objs.size (cellsFrom (s3.heap.objs.size+1) scope.names (cX X.env.cells scope.names [])) fp;show codeAny _ _ (.compStart (.ListComp elt [⟨tg,iter,ifs,0⟩] scope pos) 0 (.ref it) (.ref D) (compEnvC scope (cellsFrom (s3.heap.objs.size+1) scope.names (cX X.env.cells scope.names [])) s3.heap.objs.size X.env)) (compPost (model X.prog X.w) X.A X.xe use Qf (.ref D) s3.heap.objs.size) {s3 with heap:=pushCells (s3.heap.push {cls:=.type "dict",data:=.dict #[]}) scope.names};have nfp:∀b∈fp,(upd H2 D (.lst [])) b=none:=λb hb=>(f3 b hb).1.1
 generalize hce:compEnvC scope (cellsFrom (s3.heap.objs.size+1) scope.names (cX X.env.cells scope.names [])) s3.heap.objs.size X.env=ce at I4 pg pt pe ⊢;have cL:ce.locals=s3.heap.objs.size:=by subst hce;rfl
 generalize hH3:upd H2 D (.lst [])=H3 at I3 I4 pg pt pe w0 nfp f3;generalize hs4:({s3 with heap:=pushCells (s3.heap.push {cls:=.type "dict",data:=.dict #[]}) scope.names}:Shared)=s4 at I4 ⊢;have st4:tn 0 s4.heap:=T.keep _ _ _ st3 λb _ o e=>by rw[<-hs4];exact pushCells_keeps _ _ _ _ (Heap.get?_push_of_some _ e)
 have JR:∀{σ':St} {H':Hp} {s':Shared},Inv (X.GF s3 H3 scope ce fp) [] σ' H' s'->(∀b∈fp,H' b=none)->∀b∈fp,Bp (X.GF s3 H3 scope ce fp) [] H' b:=λ{σ' H' s'} I' hn b hb=>
  ⟨hn b hb,(I'.ok.XE b hb).1,I'.ok.K3 b hb,.inl hb,λx c e=>(I'.ok.XE b hb).2 x c e,λp hp=>absurd (show p∈([]:List (Addr×Obj))++[]from hp) (by simp)⟩
 have loop:codeAny (model X.prog X.w) X.A (.compLoop (.ListComp elt [⟨tg,iter,ifs,0⟩] scope pos) 0 (.ref it) (.ref D) ce) (compPost (model X.prog X.w) X.A X.xe use Qf (.ref D) s3.heap.objs.size) s4:=by
  refine Gr (λn s'=>∃i H',Inv (X.GF s3 H3 scope ce fp) [] (wipe σ (own.map (·.2))) H' s'/\tn i s'.heap/\(∀b∈fp,H' b=none)/\W i n H') ?_ m0 ⟨0,H3,I4,st4,nfp,w0⟩
  rintro n s5 ⟨i,H5,I5,UH,n5,w5⟩
  rcases turn i n H5 w5 with⟨stop,qq⟩|⟨go,Nx,hNx,step⟩
  ·have td:=T.done (X.GF s3 H3 scope ce fp) rfl rfl rfl hc i [] s5 _ H5 (λ_ _=>False) I5 (JR I5 n5) UH stop;refine M6 td λr s6 ⟨hr,I6⟩=>?_
   subst hr;have I7:Inv X pins σ H5 s6:=I3.Ve (ch:=fp) I6.os I6.base I6.cM I6.bare λb hb=>⟨(f3 b hb).1.2.2.2.1,(f3 b hb).1.2.1,(f3 b hb).1.2.2.2.2.1,(f3 b hb).1.2.2.2.2.2⟩
   have nC:H5 s3.heap.objs.size=none:=by
    have z:H5 ce.locals=none:=I6.free;rw[cL]at z;exact z
   obtain⟨m,hn,_⟩:=I6.loc;have hn:s6.heap.Ns ce.locals m:=hn;rw[cL]at hn;exact hRR D s3.heap.objs.size s6 m H5 I7 qq hn (I3.RG (aM _) nC)
  ·have ti:=T.item (X.GF s3 H3 scope ce fp) rfl rfl rfl hc i [] s5 _ H5 (λ_ _=>False) I5 (JR I5 n5) UH go;refine M6 ti λr s6 ⟨u,hr,h6⟩=>?_
   subst hr;refine M6 h6 λ_ s7 ⟨x,H7,I7,r7,y7,st7,n7⟩=>?_
   have I7':=I7.pinned (JR I7 n7) (T.obj _ _ st7);refine M6 (pg _ s7 _ H7 x u _ I7' r7 (step x H7 y7)) λ_ s8 ⟨σ8,H8,I8,hw8,q8⟩=>?_
   refine M6 (pt _ s8 σ8 H8 _ I8 q8) λb s9 ⟨H9,I9,q9⟩=>?_
   have fin:∀{s':Shared} {H':Hp},Inv (X.GF s3 H3 scope ce fp) ([]++zW fp s7.heap) σ8 H' s'->Nx H'->∃m,m<n/\∃i H',Inv (X.GF s3 H3 scope ce fp) [] (wipe σ (own.map (·.2))) H' s'/\tn i s'.heap/\(∀b∈fp,H' b=none)/\W i m H':=λ{s' H'} I' nx=>by
    obtain⟨m',hm,w'⟩:=hNx H' nx;have Yv:∀b∈fp,∀o,s7.heap.get? b=some o->s'.heap.get? b=some o/\H' b=none:=λb hb o e=>
     let z:=I'.pin (b,o) (List.mem_append_right _ (List.mem_append_right _ (sx hb e)))
     ⟨z.1,z.2.1⟩
    have hl:(wipe σ (own.map (·.2))).length=σ8.length:=by rw[<-hw8,oS]
    refine⟨m',hm,i+1,H',(I'.tK (pins:=[])).weak hl (λj v e=>?_),T.keep _ _ _ st7 λb hb o e=>(Yv b hb o e).1,λb hb=>?_,w'⟩
    ·rw[<-hw8]at e;exact(vx e).1
    ·obtain⟨o,e,_⟩:=T.obj _ _ st7 b hb;exact(Yv b hb o e).2
   cases b with
   |false=>
    simp only [Bool.false_eq_true,if_false]at q9 ⊢;exact fin I9 q9
   |true=>
    simp only [if_true]at q9 ⊢;refine M6 (pe _ s9 σ8 H9 _ I9 q9) λz Tc ⟨yv,Z7,I10,r10,acc,ab2,abJ,nx⟩=>?_
    exact Xa (X:=X.GF s3 H3 scope ce fp) I10 ab2 abJ r10 λYi I11=>fin I11 nx
 exact codeAny_compStart_list loop (T.self X.A 0 _ _ _ st4 loop)
theorem uw(hc:X.calm=true)(hN:X.N.Nodup)(hi:PI X tg iter wi)(ok:Jz X.N X.env.scope scope own)
  (hg:∀(s:Shared) (H:Hp) (C:Addr) (cl:List (Str×Addr)) (fp:List Addr),PG (X.GF s H scope (compEnvC scope cl C X.env) fp) tg g) (ht:∀(s:Shared) (H:Hp) (C:Addr) (cl:List (Str×Addr)) (fp:List Addr),ZX (X.GF s H scope (compEnvC scope cl C X.env) fp) ifs tt)
  (he:∀(s:Shared) (H:Hp) (C:Addr) (cl:List (Str×Addr)) (fp:List Addr),PE (X.GF s H scope (compEnvC scope cl C X.env) fp) elt te) (hs:∀x,foldedSetIterable iter X.env x=pure x:=by intro _;rfl):
  PE X (.ListComp elt [⟨tg,iter,ifs,0⟩] scope pos) (tLc wi g tt te (own.map (·.2))):=by
 intro pins s σ H Q I h;rw[eval_ListComp];refine Mj hc hN I hi ok hg ht he hs h λD C s' m H' I' q hn f=>⟨m,hn,λh'' sb=>?_⟩
 obtain⟨f0,f1,f2,f3,f4,f5⟩:=f;exact⟨.ref D,H',I'.turned (t':=s'.toks) (λb o hb e=>(sb.2 b hb).trans e) f0 f1 f3 f4 f5,rfl,q⟩
theorem zT{X_:Pos}(hc:X.calm=true)(hN:X.N.Nodup)(hy:X.N[i]? =some y)(hyl:X.env.scope.names.lookup y=some .local)
  (hsw:swapsWith (.ListComp elt [⟨tg,iter,ifs,0⟩] scope pos) (some (.Name y py)) X_.line X.env=pure true) (hi:PI X tg iter wi) (ok:Jz X.N X.env.scope scope own)
  (hg:∀(s:Shared) (H:Hp) (C:Addr) (cl:List (Str×Addr)) (fp:List Addr),PG (X.GF s H scope (compEnvC scope cl C X.env) fp) tg g) (ht:∀(s:Shared) (H:Hp) (C:Addr) (cl:List (Str×Addr)) (fp:List Addr),ZX (X.GF s H scope (compEnvC scope cl C X.env) fp) ifs tt)
  (he:∀(s:Shared) (H:Hp) (C:Addr) (cl:List (Str×Addr)) (fp:List Addr),PE (X.GF s H scope (compEnvC scope cl C X.env) fp) elt te) (hs:∀x,foldedSetIterable iter X.env x=pure x:=by intro _;rfl):
  PS X (.Assign [.Name y py] (.ListComp elt [⟨tg,iter,ifs,0⟩] scope pos) X_) (S1 (tLc wi g tt te (own.map (·.2))) (AZ i)):=by
 intro pins s σ H D I h;rw[exec_Assign_Name_used _ _ _ _ hsw];refine wpAny_bind (wpAny_standAt (wpAny_bind ?_));show wpAny _ X.A (do let _<-comprehension (.ListComp elt [⟨tg,iter,ifs,0⟩] scope pos) scope X.env (firstIterPos [⟨tg,iter,ifs,0⟩] pos) (newList []) false (eval iter X.env) (some (assign (.Name y py) X.env))) _ _ s;have h:tLc wi g tt te (own.map (·.2)) σ H (λx H1=>AZ i x σ H1 D.nx):=h;refine wpAny_bind (c_ (Mj (Qf:=λ_ s'=>SP X pins D .next s') hc hN I hi ok hg ht he hs h λL C s' m H' I' q hn f=>?_) λ_ s' hq=>wpAny_pure (wpAny_pure hq));show wpAny _ _ (assign (.Name y py) X.env (.ref L)) _ _ _;refine wpAny_assign_Name (Dy (v:=V.ref L) I' hN hy (.inl hyl) rfl (λs2 I2 ⟨a,sb,ha⟩=>?_) (.inr hyl));obtain⟨f0,f1,f2,f3,f4,f5⟩:=f;have haC:C≠a:=by
  rcases ha with z|z
  ·rw[z];exact f1
  ·exact λe=>f4 y a z e.symm
 refine⟨m,hn.sameBut sb haC,λh3 sb3=>?_⟩;exact⟨_,H',I2.turned (t':=s2.toks) (λb o hb e=>(sb3.2 b hb).trans e) f0 f1 f3 f4 f5,q⟩
theorem EC{scope:Scope}{pos py:Pos}{env:Env}(hk:env.scope.kind= .function)(hy:env.scope.names.lookup y=some .local)(hl:(py.line==pos.line)=true)
  (ha:(scope.names.any λ(n,k)=>n==y&&(k== .local||k== .cell))=false):swapsWith (.ListComp elt gs scope pos) (some (.Name y py)) l env=pure true:=by
 have ky:env.kindOf y=some .local:=hy;have hb:env.blockKind= .function:=by unfold Env.blockKind;rw[hk];rfl
 unfold swapsWith;simp only [hb,ky,ha,Expr.pos,hl];rfl
end
theorem Rg{lo:Int}{n:Nat}{g:TG}{tt:TT}{te:TE}{vs:List Nat}{σ:St}{H1:Hp}{D:Addr}{Qd:Hp->Prop}(Pv:Nat->Hp->Prop)(h0:Pv 0 (upd H1 D (.lst [])))
  (hs:∀i H,i<n->Pv i H->g (.int (lo+i)) (wipe σ vs) H λσ2 H2=>wipe σ2 vs=wipe σ vs/\tt σ2 H2 λb H3=>
   if b=true then te σ2 H3 λy H4=>∃acc,H4 D=some (.lst acc)/\acc.length<sizeLine/\Pv (i+1) (upd H4 D (.lst (acc++[y])))else Pv (i+1) H3) (hd:∀H,Pv n H->Qd H):
  ∃W:Nat->Nat->Hp->Prop,(∃m,W 0 m (upd H1 D (.lst [])))/\∀i m H,W i m H->
   ((SS lo n).stop i H/\Qd H)\/((SS lo n).go i H/\∃Nx:Hp->Prop,(∀H',Nx H'->∃m',m'<m/\W (i+1) m' H')/\∀x H',(SS lo n).Pk i H x H'->g x (wipe σ vs) H' λσ2 H2=>wipe σ2 vs=wipe σ vs/\tt σ2 H2 λb H3=>
    if b=true then te σ2 H3 λy H4=>∃acc,H4 D=some (.lst acc)/\acc.length<sizeLine/\Nx (upd H4 D (.lst (acc++[y])))else Nx H3):=by
 refine⟨λi m H=>m=n - i/\i<=n/\Pv i H,⟨n,by simp,bw _,h0⟩,?_⟩
 rintro i m H ⟨rfl,hi,p⟩
 by_cases eP:i<n
 ·refine .inr ⟨eP,Pv (i+1),λH' p'=>⟨n - (i+1),by omega,rfl,eP,p'⟩,λx H' y=>?_⟩;obtain⟨e,y⟩:=y;subst e y;exact hs i _ eP p
 ·have e:i=n:=by omega
  subst e;exact .inl ⟨aM _,hd H p⟩
theorem nV{K:PySem.W.Frag}{a:Addr}{xs:List V}{g:TG}{tt:TT}{te:TE}{vs:List Nat}{σ:St}{H1:Hp}{D:Addr}{Qd:Hp->Prop}(Pv:Nat->Hp->Prop)(h0:Pv 0 (upd H1 D (.lst [])))(hl:∀i H,i<=xs.length->Pv i H->bp K H a xs)
  (hs:∀i x H,xs[i]? =some x->Pv i H->g x (wipe σ vs) H λσ2 H2=>wipe σ2 vs=wipe σ vs/\tt σ2 H2 λb H3=>
   if b=true then te σ2 H3 λy H4=>∃acc,H4 D=some (.lst acc)/\acc.length<sizeLine/\Pv (i+1) (upd H4 D (.lst (acc++[y])))else Pv (i+1) H3) (hd:∀H,Pv xs.length H->Qd H):
  ∃W:Nat->Nat->Hp->Prop,(∃m,W 0 m (upd H1 D (.lst [])))/\∀i m H,W i m H->
   ((Sk K a).stop i H/\Qd H)\/((Sk K a).go i H/\∃Nx:Hp->Prop,(∀H',Nx H'->∃m',m'<m/\W (i+1) m' H')/\∀x H',(Sk K a).Pk i H x H'->g x (wipe σ vs) H' λσ2 H2=>wipe σ2 vs=wipe σ vs/\tt σ2 H2 λb H3=>
    if b=true then te σ2 H3 λy H4=>∃acc,H4 D=some (.lst acc)/\acc.length<sizeLine/\Nx (upd H4 D (.lst (acc++[y])))else Nx H3):=by
 refine⟨λi m H=>m=xs.length - i/\i<=xs.length/\Pv i H,⟨xs.length,by simp,bw _,h0⟩,?_⟩
 rintro i m H ⟨rfl,hi,p⟩
 have q:=hl i H hi p;by_cases eP:i<xs.length
 ·refine .inr ⟨⟨xs,xs[i],q,by simp[eP]⟩,Pv (i+1),λH' p'=>⟨xs.length - (i+1),by omega,rfl,eP,p'⟩,λx H' y=>?_⟩;obtain⟨e,y⟩:=y;subst e;exact hs i x _ (y xs q) p
 ·have e:i=xs.length:=by omega
  subst e;exact .inl ⟨⟨xs,q,aM _⟩,hd H p⟩
def ZT(N:List Str)(sc scope:Scope)(own:List (Str×Nat)):Bool:=
 (match scope.kind with| .function=>true|_=>false)&&(scope.names.all λy=>decide (scope.names.lookup y.1=some y.2))&&(own.all λp=>decide (N[p.2]? =some p.1))&&
  (scope.names.all λy=>match y.2 with
   | .free=>(match sc.names.lookup y.1 with|some .cell=>true|some .free=>true|_=>false)
   | .local=>decide (y.1∈own.map (·.1))||decide (y.1 ∉ N)
   | .cell=>decide (y.1∈own.map (·.1))||decide (y.1 ∉ N)
   |_=>true)
theorem eO(h:ZT N sc scope own=true):Jz N sc scope own:=by
 unfold ZT at h;simp only [bj,Eu,decide_eq_true_eq]at h;obtain⟨⟨⟨h1,h2⟩,h3⟩,h4⟩:=h;refine⟨?_,h2,h3,λy hy e=>?_,λy hy e=>?_⟩
 ·split at h1
  ·assumption
  ·cases h1
 ·have q:=h4 y hy;simp only [e]at q;split at q<;>first|exact .inl (by assumption)|exact .inr (by assumption)|cases q
 ·have q:=h4 y hy;rcases e with e|e<;>(simp only [e,Bool.or_eq_true,decide_eq_true_eq]at q;exact q)
end L2
namespace L2
open PySem PySem.Spec PyProof.Rows
section
variable {prog:Program} {w:World} {A:Around} {R:Result->Shared->Prop} {s:Shared} {elt t0 i0 t1 i1:Expr} {acA acz:List Expr} {scope:Scope} {pos:Pos} {it acc:Value} {env:Env}
end
section
variable {X:Cx}
end
end L2
namespace L2
open PySem PySem.Spec PyProof.Rows
section
variable {κ:Type} [DecidableEq κ]
def jh(bD:List (κ×V))(k:κ):Option V:=(bD.find? λkv=>decide (kv.1=k)).map (·.2)
def putK(bD:List (κ×V))(k:κ)(v:V):List (κ×V):=
 if(bD.any λkv=>decide (kv.1=k))=true then bD.map (λkv=>if kv.1=k then(kv.1,v)else kv)else bD++[(k,v)]
theorem yY{p:κ×V}(e:p.1=k):jh (p::r) k=some p.2:=by simp[jh,List.find?_cons,e]
theorem yZ{p:κ×V}(e:¬p.1=k):jh (p::r) k=jh r k:=by simp[jh,List.find?_cons,e]
theorem y_(k:κ):∀bD:List (κ×V),(bD.any λkv=>decide (kv.1=k))=(jh bD k).isSome
 |[]=>rfl
 |p::r=>by
  rw[List.any_cons];by_cases e:p.1=k
  ·simp only [yY e,aN e,Bool.true_or,Option.isSome_some]
  ·rw[yZ e,aQ e,Bool.false_or];exact y_ k r
theorem xE(bD:List (κ×V))(k:κ)(v:V):(putK bD k v).length<=bD.length+1:=by
 unfold putK;split
 ·rw[aH];omega
 ·rw[ba,di,List.length_nil];omega
theorem Qu{bD:List (κ×V)}{k:κ}(v:V)(h:jh bD k=none):putK bD k v=bD++[(k,v)]:=by
 unfold putK;rw[y_,h];exact ah (by decide)
theorem oP.wA(r:oP o u):o.isSome=u.isSome:=by
 cases o with
 |none=>cases u with
  |none=>rfl
  |some _=>exact(show False from r).elim
 |some _=>cases u with
  |none=>exact(show False from r).elim
  |some _=>rfl
theorem oP.getD(r:oP o u)(rd:RelV d d'):RelV (o.getD d) (u.getD d'):=by
 cases o with
 |none=>cases u with
  |none=>exact rd
  |some _=>exact(show False from r).elim
 |some _=>cases u with
  |none=>exact(show False from r).elim
  |some _=>exact r
theorem KV.val(r:KV bD vs)(k:κ):oP (jh bD k) (valueAt vs k):=by
 unfold KV at r
 induction r with
 |nil=>exact True.intro
 | @cons p q ps qs h t ih=>
  obtain⟨h1,h2⟩:=h;by_cases e:p.1=k
  ·have e':q.1=k:=h1.symm.trans e;have b:valueAt (q::qs) k=some q.2:=by simp[valueAt,List.find?_cons,e']
   rw[yY e,b];exact h2
  ·have e':¬q.1=k:=λz=>e (h1.trans z)
   have b:valueAt (q::qs) k=valueAt qs k:=by simp[valueAt,List.find?_cons,e']
   rw[yZ e,b];exact ih
theorem KV.any(r:KV bD vs)(k:κ):(bD.any λkv=>decide (kv.1=k))=vs.any λkv=>decide (kv.1=k):=by
 unfold KV at r
 induction r with
 |nil=>rfl
 |cons h t ih=>rw[List.any_cons,List.any_cons,ih,h.1]
theorem KV.VG(r:KV bD vs)(k:κ)(ry:RelV y u):
  KV (bD.map λkv=>if kv.1=k then(kv.1,y)else kv) (vs.map λkv=>if kv.1=k then(kv.1,u)else kv):=by
 unfold KV at r ⊢
 induction r with
 |nil=>exact .nil
 | @cons p q ps qs h t ih=>
  rw[cz,cz];refine .cons ?_ ih;obtain⟨h1,h2⟩:=h;by_cases e:p.1=k
  ·rw[ai e,ai (h1.symm.trans e)];exact⟨h1,ry⟩
  ·rw[ah e,ah (λz=>e (h1.trans z))];exact⟨h1,h2⟩
theorem KV.put(r:KV bD vs)(k:κ)(ry:RelV y u):KV (putK bD k y) (stored vs k u):=by
 unfold putK stored;rw[r.any k];by_cases e:(vs.any λkv=>decide (kv.1=k))=true
 ·rw[ai e,ai e];exact r.VG k ry
 ·rw[ah e,ah e];exact Paired.snoc r ⟨rfl,ry⟩
theorem KV.length(r:KV bD vs):bD.length=vs.length:=Paired.length r
end
theorem DY(r:RelV (kV k) u):(dZ P w).is k u=true:=by
 cases k with
 |inl i=>obtain⟨t,e⟩:=(show ∃t,u=Value.int i t from r);subst e;exact Ir P w i t
 |inr x=>obtain⟨t,e⟩:=(show ∃t,u=Value.str x t from r);subst e;exact Iq P w x t
theorem D7{P:Program}{w:World}:∀{ks:List Key} {us:List Value},Vals (ks.map kV) us->ItemsAre (dZ P w) ks us
 |[],_,r=>by rw[List.map_nil]at r;cases r;exact .nil
 |k::ks,_,r=>by
  rw[cz]at r;cases r with
  |cons h t=>exact .cons (DY h) (D7 t)
abbrev KT(H:Hp):List (List Key×V)->List (List Key×Addr×Value)->Prop:=Paired λp q=>p.1=q.1/\H q.2.1=some (.tup (p.1.map kV))/\RelV p.2 q.2.2
theorem KT.val(r:KT H bD xs)(k:List Key):oP (jh bD k) ((atKey xs k).map (·.2)):=by
 induction r with
 |nil=>exact True.intro
 | @cons p q ps qs h t ih=>
  obtain⟨h1,_,h2⟩:=h;by_cases e:p.1=k
  ·have e':q.1=k:=h1.symm.trans e;have b:atKey (q::qs) k=some q.2:=by simp[atKey,List.find?_cons,e']
   rw[yY e,b];exact h2
  ·have e':¬q.1=k:=λz=>e (h1.trans z)
   have b:atKey (q::qs) k=atKey qs k:=by simp[atKey,List.find?_cons,e']
   rw[yZ e,b];exact ih
theorem KT.VG(r:KT H bD xs)(k:List Key)(ry:RelV y u):
  KT H (bD.map λkv=>if kv.1=k then(kv.1,y)else kv) (xs.map (putAt k u)):=by
 induction r with
 |nil=>exact .nil
 | @cons p q ps qs h t ih=>
  rw[cz,cz];refine .cons ?_ ih;obtain⟨h1,h2,h3⟩:=h;unfold putAt;by_cases e:p.1=k
  ·rw[ai e,ai (h1.symm.trans e)];exact⟨h1,h2,ry⟩
  ·rw[ah e,ah (λz=>e (h1.trans z))];exact⟨h1,h2,h3⟩
theorem KT.put(r:KT H bD xs)(k:List Key)(hb:H b=some (.tup (k.map kV)))(ry:RelV y u):
  KT H (putK bD k y) (storedH xs k b u):=by
 have e:(bD.any λkv=>decide (kv.1=k))=(atKey xs k).isSome:=by
  rw[y_,(r.val k).wA,Option.isSome_map]
 unfold putK storedH;rw[e];by_cases q:(atKey xs k).isSome=true
 ·rw[ai q,ai q];exact r.VG k ry
 ·rw[ah q,ah q];exact Paired.snoc r ⟨rfl,hb,ry⟩
theorem KT.keeps{H':Hp}(r:KT H bD xs)(ht:∀b ys,H b=some (.tup ys)->H' b=some (.tup ys)):KT H' bD xs:=
 Paired.TV r λ_ _ z=>⟨z.1,ht _ _ z.2.1,z.2.2⟩
section
variable {P:Program} {w:World} {H:Hp} {h:Heap} {a:Addr}
theorem UJ(ok:mm P w H h)(e:Rd H a u):dO P w H h a u:=e.ok ok
theorem RU(ok:mm P w H h)(e:Rd H a (.dK bD)):bD.length<=sizeLine/\(a==sysModules)=false/\∃vs,KV bD vs/\h.DictOf (dZ P w) a vs:=
 show dO P w H h a (.dK bD)from UJ ok e
theorem ZO(ok:mm P w H h)(e:H a=some (.dK bD)):bD.length<=sizeLine/\(a==sysModules)=false/\∃vs,KV bD vs/\h.DictOf (dZ P w) a vs:=RU ok (.inl e)
theorem KG{ks:List Key}(ok:mm P w H h)(e:H a=some (.tup (ks.map kV))):(tupleKind (dZ P w)).is h ks a:=by
 obtain⟨_,its,r,o,h1,h2,n,h3⟩:=(show dO P w H h a (.tup (ks.map kV))from ok a _ e);exact⟨o,its.toArray,n,h1,h2,h3,by simpa using D7 r⟩
theorem RS(ok:mm P w H h)(e:Rd H a (.dT bD)):bD.length<=sizeLine/\(a==sysModules)=false/\
  ∃xs,KT H bD xs/\h.DictOfH (tupleKind (dZ P w)) a xs:=by
 obtain⟨z,y,xs,r,o,es,ep,h1,h2,h3,h4,h5⟩:=(show dO P w H h a (.dT bD)from UJ ok e);refine⟨z,y,xs,r,o,es,ep,h1,h2,h3,h4,λx hx=>?_,h5⟩;have all:∀{l:List (List Key×V)} {m:List (List Key×Addr×Value)},KT H l m->∀x∈m,(tupleKind (dZ P w)).is h x.1 x.2.1:=by
  intro l m q
  induction q with
  |nil=>intro x hx;exact nomatch hx
  | @cons p q ps qs hq t ih=>
   intro x hx;rcases List.mem_cons.mp hx with e|hx
   ·subst e;exact KG ok (by rw[<-hq.1];exact hq.2.1)
   ·exact ih x hx
 exact all r x hx
theorem ZN(ok:mm P w H h)(e:H a=some (.dT bD)):bD.length<=sizeLine/\(a==sysModules)=false/\
  ∃xs,KT H bD xs/\h.DictOfH (tupleKind (dZ P w)) a xs:=RS ok (.inl e)
end
def Sn(H:Hp)(a:Addr)(y:V)(r:Option V):Prop:=
 (∃bD k,Rd H a (.dK bD)/\y=kV k/\r=jh bD k)\/∃bD k b,Rd H a (.dT bD)/\y= .ref b/\H b=some (.tup (k.map kV))/\r=jh bD k
def Sm(H:Hp)(a:Addr)(y v:V)(H':Hp):Prop:=
 (∃bD k,H a=some (.dK bD)/\y=kV k/\bD.length<sizeLine/\H'=upd H a (.dK (putK bD k v)))\/
 ∃bD k b,H a=some (.dT bD)/\y= .ref b/\H b=some (.tup (k.map kV))/\bD.length<sizeLine/\H'=upd H a (.dT (putK bD k v))
theorem Sn.k{H:Hp}{a:Addr}{bD:List (Key×V)}{k:Key}(e:H a=some (.dK bD)):Sn H a (kV k) (jh bD k):=.inl ⟨bD,k,.inl e,rfl,rfl⟩
theorem Sm.k{H:Hp}{a:Addr}{bD:List (Key×V)}{k:Key}{v:V}(e:H a=some (.dK bD))(hl:bD.length<sizeLine):Sm H a (kV k) v (upd H a (.dK (putK bD k v))):=.inl ⟨bD,k,e,rfl,hl,rfl⟩
section
variable {X:Cx} {pins:List (Addr×Obj)} {σ:St} {H:Hp} {s:Shared} {a:Addr} {y v:V} {u r:Value} {o:Option V} {A:Around} {E:Value->Shared->Prop}
theorem Inv.big(I:Inv X pins σ H s):sysModules<s.heap.objs.size:=by
 have h:mainGlobals<s.heap.objs.size:=(I.mod.glob.keeps I.bk).lt;exact Nat.lt_trans (by decide) h
theorem MI{t':Nat}(I:Inv X pins σ H s)(mu:Z0 (H a))(hs:Heap.SameBut a s.heap h')(he:∃q,h'.get? a=some q)(new:dO X.prog X.w (upd H a ob) h' a ob):
  Inv X pins σ (upd H a ob) {s with heap:=h',toks:=t'}:=
 I.write (x:=a) (e:=a) mu (.inl rfl) (λb q hb z=>(hs.2 b hb).trans z) he new
theorem WX{h':Heap}{bD:List (Key×V)}(z:bD.length<=sizeLine)(hd:(a==sysModules)=false)(rel:KV bD vs)(dd:h'.DictOf (dZ P w) a vs):
  dO P w H' h' a (.dK bD):=⟨z,hd,vs,rel,dd⟩
theorem OD{Q:Unit->Shared->Prop}(hu:A.units+1<cLine)(I:Inv X pins σ H s)(g:Sm H a y v H')(ry:RelV y u)(rv:RelV v r)(h:∀s',Inv X pins σ H' s'->Q () s'):
  wpAny (model X.prog X.w) A (setItem (.ref a) u r) Q E s:=by
 rcases g with⟨bD,k,e,ey,l,eH⟩|⟨bD,k,b,e,ey,eb,l,eH⟩
 ·subst ey eH;obtain⟨z,hd,vs,rel,dd⟩:=ZO I.cM e;have hz:vs.length<=sizeLine:=by rw[<-rel.length];exact z
  have hl:(putK bD k v).length<=sizeLine:=by have:=xE bD k v;omega
  refine wpAny_setItem_pairs (hsz:=hz) (DY ry) dd λh' dd' hs=>h _ ?_
  have he:∃q,h'.get? a=some q:=let ⟨q,_,_,hq,_⟩:=dd';⟨q,hq⟩;exact MI I (by rw[e];exact True.intro) hs he (WX hl hd (rel.put k rv) dd')
 ·subst ey eH;cases (show u=Value.ref b from ry);obtain⟨z,hd,xs,rel,dd⟩:=ZN I.cM e;have hz:xs.length<=sizeLine:=by rw[<-Paired.length rel];exact z
  have hl:(putK bD k v).length<=sizeLine:=by have:=xE bD k v;omega
  refine wpAny_setItem_heap (hsz:=hz) (tupleKind_room_in1 hu) (KG I.cM eb) dd λh' dd' hs=>h _ ?_
  obtain⟨q,es,ep,hq,h2,h3,h4,_,h5⟩:=dd';refine MI I (by rw[e];exact True.intro) hs ⟨q,hq⟩ ⟨hl,hd,_,(rel.put k eb rv).keeps λc ys ec=>?_,q,es,ep,hq,h2,h3,h4,h5⟩;rw[ao (YG ec e (λz=>nomatch z))];exact ec
end
section
variable {X:Cx} {pins:List (Addr×Obj)} {σ:St} {H:Hp} {s:Shared} {a:Addr} {bD:List (Key×V)} {k:Key} {u:Value} {A:Around} {E:Value->Shared->Prop}
end
def ZZ(i:Expr):Prop:=∀ov iv,subscripted i false ov iv=operate [ov,iv] (getItem ov iv)
theorem S3{E:Value->Shared->Prop}{id:String}{Q:Value->Shared->Prop}
  (hl:typeLookup (.type T) "__getitem__"=pure (some (.builtin id))) (hs:ZZ slice)
  (h:wpAny (model prog w) A (eval value env) (λo s₁=>wpAny (model prog w) A (eval slice env) (λi s₂=>s₂.TypeIs o T/\wpAny (model prog w) A (getItem o i) Q E s₂) E s₁) E s):
  wpAny (model prog w) A (eval (.Subscript value slice pos) env) Q E s:=by
 refine Subscript_ (wpAny_mono h (λo s₁ h₁=>wpAny_mono h₁ (λi s₂ h₂=>?_) λ_ _ x=>x) λ_ _ x=>x);obtain⟨hT,h₂⟩:=h₂;unfold subscriptTail;refine wpAny_bind ?_;rw[getitemInPython_of_ne hT.not_modules];refine wpAny_bind (wpAny_specialOf hT hl ?_);have fin:wpAny (model prog w) A (subscripted slice false o i) (λr s₃=>wpAny (model prog w) A (letTemporaryGo value o r >>= λ_=>pure r) Q E s₃) E s₂:=by
  rw[hs o i];exact wpAny_operating (wpAny_mono h₂ (λr s₃ h₃=>wpAny_bind (wpAny_letTemporaryGo (wpAny_pure h₃))) λ_ _ x=>x)
 first
  |exact wpAny_pure (wpAny_bind fin)
  |exact wpAny_bind (wpAny_pure (wpAny_bind fin))
  |exact wpAny_bind fin
def Yh(td ty tv:TE):TS:=λD σ H=>tv σ H λv H1=>td σ H1 λx H2=>ty σ H2 λy H3=>∃a H4,x= .ref a/\Sm H3 a y v H4/\D.nx σ H4
section
variable {X:Cx} {o i e value:Expr} {pos pos' SW:Pos} {td ty tv:TE}
theorem Th(hu:X.A.units+1<cLine)(ho:PE X o td)(hi:PE X i ty)(hv:PE X value tv)(hs:swapsWith value (some (.Subscript o i pos')) pos.line X.env=pure false):
  PS X (.Assign [.Subscript o i pos'] value pos) (Yh td ty tv):=by
 intro pins s σ H D I h;refine wpAny_Assign_Subscript (c_ (hv pins s σ H _ I h) λr s1 ⟨v,H1,I1,rv,q1⟩=>c_ (ho pins s1 σ H1 _ I1 q1) λu s2 ⟨x,H2,I2,rx,q2⟩=>c_ (hi pins s2 σ H2 _ I2 q2) λiv s3 ⟨y,H3,I3,ry,a,H4,ex,g,q3⟩=>?_) hs;subst ex;obtain rfl:u=Value.ref a:=rx;exact OD hu I3 g ry rv λs4 I4=>⟨σ,H4,I4,q3⟩
end
theorem RV(h:Heap)(hb:sysModules<h.objs.size):dO P w H (h.push {cls:=.type "dict",data:=.dict #[]}) h.objs.size (.dK []):=
 ⟨bw _,beq_eq_false_iff_ne.mpr (Ne.symm (Nat.ne_of_lt hb)),[],.nil,Heap.DictOf.new h⟩
def Vt:TE:=λ_ H Q=>∀p,H p=none->Q (.ref p) (upd H p (.dK []))
section
variable {X:Cx} {pos:Pos}
theorem QG:PE X (.Dict [] [] pos) Vt:=λpins s σ H Q I h=>
 wpAny_Dict_empty ⟨.ref s.heap.objs.size,_,I.laid (a:=s.heap.objs.size) (o:=.dK []) (t':=s.toks) (λ_ _ q=>Heap.get?_push_of_some _ q) (aM _) (RV s.heap I.big),rfl,h _ (I.cM.fresh (aM _))⟩
end
structure M2(X:Cx)(o:Expr)(m:Str)(apos:Pos)(e f:Expr)(iu:Pos):Prop where
 base:attributeBase o m X.env (eval o X.env)=eval o X.env
 few:((backTo iu (starEach [e,f] X.env)).all (λx=> !x.1)&&(backToKw iu (keywordEach [] X.env)).all (λx=>x.1.isSome)
  &&decide (([e,f]:List Expr).length+([]:List Keyword).length+(if([]:List Keyword).isEmpty then 0 else 1)<30))=true
 line:(apos.endLine==iu.line)=true
 trees:backTo iu (starEach [e,f] X.env)=[(false,eval e X.env),(false,eval f X.env)]
def IsD(H:Hp)(a:Addr):Prop:=(∃bD,Rd H a (.dK bD))\/∃bD,Rd H a (.dT bD)
theorem Wl(I:Inv X pins σ H s)(d:IsD H a):
  s.TypeIs (.ref a) "dict"/\(∀b,Value.ref a= .ref b->∃ob,s.heap.get? b=some ob/\ob.dict=none)/\(a==sysModules)=false:=by
 rcases d with⟨bD,e⟩|⟨bD,e⟩
 ·obtain⟨_,hd,vs,_,dd⟩:=RU I.cM e;refine⟨dd.typeIs,λb q=>?_,hd⟩;cases q;obtain⟨ob,_,_,h1,h2,_⟩:=dd;exact⟨ob,h1,h2.2.1⟩
 ·obtain⟨_,hd,xs,_,dd⟩:=RS I.cM e;refine⟨dd.typeIs,λb q=>?_,hd⟩;cases q;obtain⟨ob,_,_,h1,h2,_⟩:=dd;exact⟨ob,h1,h2.2.1⟩
section
variable {X:Cx} {pins:List (Addr×Obj)} {σ:St} {H:Hp} {s:Shared} {a:Addr} {y d:V} {u r:Value} {o:Option V} {A:Around} {E:Value->Shared->Prop}
theorem W3{Q:Value->Shared->Prop}(hu:A.units+1<cLine)(I:Inv X pins σ H s)(g:Sn H a y o)(ry:RelV y u)(rd:RelV d r)(h:∀w' s',Inv X pins σ H s'->RelV (o.getD d) w'->Q w' s'):
  wpAny (model X.prog X.w) A (call (.builtin "dict.get") [.ref a,u,r]) Q E s:=by
 rcases g with⟨bD,k,e,ey,l⟩|⟨bD,k,b,e,ey,eb,l⟩
 ·subst ey;obtain⟨z,hd,vs,rel,dd⟩:=RU I.cM e;refine call_meetsIn PySem.F.slot_dict_get dd.typeIs PySem.F.entry_dict_get (PySem.F.args_dict_get_3 _ _ _) (meets_dict_get_default (dZ X.prog X.w) a (DY ry) hd r) ⟨_,dd.mapOf,h _ _ (I.tok _) ?_⟩;rw[l];exact(rel.val k).getD rd
 ·subst ey;cases (show u=Value.ref b from ry);obtain⟨z,hd,xs,rel,dd⟩:=RS I.cM e;refine call_meetsIn PySem.F.slot_dict_get dd.typeIs PySem.F.entry_dict_get (PySem.F.args_dict_get_3 _ _ _) (meetsH_dict_get_default (tupleKind (dZ X.prog X.w)) a b hd r) ⟨tupleKind_room_in1 hu,k,xs,KG I.cM eb,dd,h _ _ (I.tok _) ?_⟩;rw[l];exact(rel.val k).getD rd
end
def Vu(td ty tx:TE):TE:=λσ H Q=>td σ H λx H1=>∃a,x= .ref a/\IsD H1 a/\ty σ H1 λy H2=>tx σ H2 λz H3=>∃o,Sn H3 a y o/\Q (o.getD z) H3
section
variable {X:Cx} {o e f:Expr} {apos iu:Pos} {td ty tx:TE}
theorem QH(hu:X.A.units+1<cLine)(ho:PE X o td)(he:PE X e ty)(hf:PE X f tx)(m:M2 X o "get" apos e f iu):PE X (.Call (.Attribute o "get" apos) [e,f] [] iu) (Vu td ty tx):=by
 intro pins s σ H Q I h;refine wpAny_Call_method m.base m.few m.line PySem.F.plainAttrs_dict PySem.F.slot_dict_get PySem.F.type_dict_get (c_ (ho pins s σ H _ I h) λu s1 ⟨x,H1,I1,rx,a,ex,d,q1⟩=>?_);subst ex;obtain rfl:u=Value.ref a:=rx;obtain⟨t1,t2,_⟩:=Wl I1 d;refine⟨t1,t2,?_⟩;rw[m.trees];refine Calls.callWith_builtin rfl (Calls.evalArgs_plain (Calls.spliced_cons (c_ (he pins s1 σ H1 _ I1 q1) λiv s2 ⟨y,H2,I2,ry,q2⟩=>
  Calls.spliced_cons (c_ (hf pins s2 σ H2 _ I2 q2) λfv s3 ⟨z,H3,I3,rz,ov,g,q3⟩=>Calls.spliced_nil ?_))))
 exact W3 hu I3 g ry rz λw' s4 I4 VC=>⟨_,H3,I4,VC,q3⟩
end
section
variable {X:Cx} {pins:List (Addr×Obj)} {σ:St} {H:Hp} {s:Shared} {a:Addr} {bD:List (Key×V)} {A:Around} {E:Value->Shared->Prop}
end
section
variable {X:Cx} {pins:List (Addr×Obj)} {σ:St} {H:Hp} {s:Shared} {a:Addr} {y:V} {u:Value} {A:Around} {E:Value->Shared->Prop}
end
end L2
namespace L2
open PySem PySem.Spec PyProof.Rows
section
variable {prog:Program} {w:World} {A:Around} {E:Value->Shared->Prop}
end
section
variable {X:Cx}
end
end L2
namespace L2
open PySem PySem.Spec PyProof.Rows
theorem Bk:bootBuiltins "reversed"=some (.type "reversed"):=by decide +kernel
section
variable {X:Cx} {pins:List (Addr×Obj)} {σ:St} {H:Hp} {s:Shared} {h':Heap}
theorem Inv.MY{t':Nat}{ch:List Addr}{T:Addr}{ob:HO}(I:Inv X pins σ H s)(k:∀b o,b ∉ ch->s.heap.get? b=some o->h'.get? b=some o)(hf:∀b∈ch,Bp X pins H b)(hT:s.heap.objs.size<=T)
  (new:dO X.prog X.w (upd H T ob) h' T ob):Inv X pins σ (upd H T ob) {s with heap:=h',toks:=t'}:=by
 have hn:H T=none:=I.cM.fresh hT;have YF:∀b u,H b=some u->b ∉ ch:=λb u e z=>by
  have q:=(hf b z).1;rw[q]at e;cases e
 refine I.step (g':=s.gens) (d':=s.drawn) (ch:=ch) (λb hb=>⟨(hf b hb).2.2.2.1,(hf b hb).2.1,(hf b hb).2.2.2.2.1,(hf b hb).2.2.2.2.2⟩) (λb o _ _ hc e _=>k b o hc e) (λb o _ _ hc e _=>⟨o.slots,k b o hc e⟩)
  (λb o _ e n=>?_) (λb o hc e=>⟨o,k b o hc e⟩) (λb xs e=>?_) (λb o u e=>?_) (λb ps e=>⟨#[],?_⟩) (λm hm=>?_) (λb u e=>?_) I.bare
 ·rw[ao (Nat.ne_of_lt (dh (Heap.lt_size e) hT))];exact n
 ·rw[ao (au e hn)];exact e
 ·rw[ao (au e hn)];exact e
 ·rw[ao (au e hn),e];simp
 ·obtain⟨o,es,ep,ho,r⟩:=hm;exact⟨o,es,ep,k _ o (λz=>(hf _ z).2.1 rfl) ho,r⟩
 ·by_cases hb:b=T
  ·subst hb;rw[af]at e;cases e;exact new
  ·rw[ao hb]at e;refine(I.cM b u e).ED (λc v hc q=>k c v ?_ q) (λc q=>by rw[ao (au q hn)];exact q) λc xs q=>by rw[ao (au q hn)];exact q
   rcases hc with z|z
   ·rw[z];exact YF b u e
   ·exact YF c _ z
end
section
variable {X:Cx}
theorem J7{R:It->Hp->Prop}{tn:Nat->Heap->Prop}{tk:Nat}(I:Inv X pins σ H s)(o:Obj)
  (T:Turn X.prog X.w X.K tg J [s.heap.objs.size] s.heap.objs.size tn) (st:tn 0 (s.heap.push o)) (q:R J H):PIE X pins σ tg R (.ref s.heap.objs.size) {s with heap:=s.heap.push o,toks:=tk}:=by
 refine⟨s.heap.objs.size,[s.heap.objs.size],tn,J,H,rfl,I.kept λb ob e=>Heap.get?_push_of_some _ e,T,st,λb hb=>?_,q⟩;have e:b=s.heap.objs.size:=by simpa using hb
 subst e;exact I.RG (aM _) (I.cM.fresh (aM _))
end
def Vf(lo c:Int)(n:Nat):It:=⟨λi _=>i<n,λi H x H'=>H'=H/\x= .int (lo+(i:Nat)*c),λi _=>n<=i⟩
theorem G9{K:PySem.W.Frag}(it:Addr)(lo c:Int)(n:Nat):Turn P w K tg (Vf lo c n) [it] it (λi h=>IsRangeIter h it (lo+(i:Nat)*c) ((n:Int) - (i:Nat)) c) where
 mem:=by simp
 obj:=λi h st b hb=>by
  have e:b=it:=by simpa using hb
  subst e;exact⟨_,st,λv z=>nomatch z⟩
 keep:=λi h h' st k=>k it (by simp) _ st
 item:=by
  intro X hP hw hK hc i pins s σ H E I hf st hg;subst hP hw hK;obtain⟨f0,f1,f2,f3,f4,f5⟩:=hf it (by simp);have W:=Walks.range (prog:=X.prog) (w:=X.w) (I.ok.hd hc) it lo c n;refine W.item i s _ _ hg st λv h' tk hv P_ kk=>?_
  obtain⟨t,rfl⟩:=hv;have I1:Inv X pins σ H {s with heap:=h',toks:=tk}:=I.turned (λb o hb e=>kk b o (by simpa using hb) e) f0 f1 f3 f4 f5;exact⟨_,rfl,Ms (s:={s with heap:=h',toks:=tk}) (n:="range_iterator") P_ rfl rfl (by decide) ⟨.int (lo+(i:Nat)*c),H,I1,⟨t,rfl⟩,⟨rfl,rfl⟩,P_,λb hb=>(hf b hb).1⟩⟩
 done:=by
  intro X hP hw hK hc i pins s σ H E I hf st hg;subst hP hw hK;obtain⟨f0,f1,f2,f3,f4,f5⟩:=hf it (by simp);exact wpAny_pyNext_range_end (I.ok.hd hc) st (by have:n<=i:=hg;omega) λh' eb=>⟨rfl,I.turned (t':=s.toks) (λb o hb e=>eb b o hb e) f0 f1 f3 f4 f5⟩
 self:=λA i s Q E st h=>wpAny_pyIter_rangeiter st h
def RgC(i j c:Int)(n:Nat):Prop:=c≠0/\c.natAbs<1073741824/\Builtin.Range.small i j c=true/\Builtin.Range.rangeSize i j c=n
def YV(ta:TA):TI:=λσ H R=>ta σ H λvs H1=>∃(i j c:Int) (n:Nat),vs=[.int i,.int j,.int c]/\RgC i j c n/\R (Vf i c n) H1
section
variable {X:Cx} {tg:Expr}
theorem DI(hg:Gl X "range")(hm:X.mg "range"=none)(ha:PA X [a,b,c] ta)
  (hs:starEach [a,b,c] X.env=(false,eval a X.env)::starEach [b,c] X.env:=by rfl) (uT:(backTo pos (starEach [b,c] X.env)).any (·.1)=false:=by rfl):
  PI X tg (.Call (.Name "range" p) [a,b,c] [] pos) (YV ta):=by
 intro pins s σ H R I h;refine Call_ (nU I hg hm boot_range (PyProof.Rows.callWith_type1 (c_ (ha pos pins s σ H _ I h) λus s1 ⟨vs,H1,I1,r1,q1⟩=>?_) hs uT));obtain⟨i,j,k,n,e,⟨c0,c1,c2,c3⟩,q⟩:=q1;subst e;cases r1 with
 |cons r rr=>
  cases rr with
  |cons r' rr=>
   cases rr with
   |cons r'' rr=>
    cases rr;obtain⟨t,rfl⟩:=r;obtain⟨t',rfl⟩:=r';obtain⟨t'',rfl⟩:=r'';refine call_range_3 c0 ?_ (.inl (PyProof.noPylong_small c1));refine wpAny_pyIter_range (IsRange.new ..) c2 ?_;have I2:Inv X pins σ H1 {s1 with heap:=s1.heap.push {cls:=.type "range",data:=.fields #[.int i t,.int j t',.int k t'']}}:=I1.kept (t':=s1.toks) λb o e=>Heap.get?_push_of_some _ e
    refine J7 (tk:=s1.toks) I2 _ (G9 _ i k n) ?_ q;have e1:i+((0:Nat):Int)*k=i:=by simp
    have e2:(n:Int) - ((0:Nat):Int)=Builtin.Range.rangeSize i j k:=by rw[c3];simp
    show IsRangeIter _ _ (i+((0:Nat):Int)*k) ((n:Int) - ((0:Nat):Int)) k;rw[e1,e2];exact Heap.get?_push_size _ rfl
end
theorem KU{lo c:Int}{n:Nat}{g:TG}{tb:TS}{D:Ends}{σ:St}{H:Hp}(Pv:Nat->St->Hp->Prop)(h0:Pv 0 σ H)
  (hs:∀i σ H,i<n->Pv i σ H->g (.int (lo+(i:Nat)*c)) σ H λσ2 H2=>tb {D with nx:=Pv (i+1),ct:=Pv (i+1),bk:=D.nx} σ2 H2) (hd:∀σ H,Pv n σ H->D.nx σ H):
  ∃W:Nat->Nat->St->Hp->Prop,(∃m,W 0 m σ H)/\∀i m σ H,W i m σ H->
   ((Vf lo c n).stop i H/\D.nx σ H)\/((Vf lo c n).go i H/\∃N:St->Hp->Prop,(∀σ' H',N σ' H'->∃m',m'<m/\W (i+1) m' σ' H')/\∀x H',(Vf lo c n).Pk i H x H'->g x σ H' λσ2 H2=>tb {D with nx:=N,ct:=N,bk:=D.nx} σ2 H2):=by
 refine⟨λi m σ H=>m=n - i/\i<=n/\Pv i σ H,⟨n,by simp,bw _,h0⟩,?_⟩
 rintro i m σ H ⟨rfl,hi,p⟩
 by_cases eP:i<n
 ·refine .inr ⟨eP,Pv (i+1),λσ' H' p'=>⟨n - (i+1),by omega,rfl,eP,p'⟩,λx H' y=>?_⟩;obtain⟨e,y⟩:=y;subst e y;exact hs i σ _ eP p
 ·have e:i=n:=by omega
  subst e;exact .inl ⟨aM _,hd σ H p⟩
section
variable {X:Cx} {tg:Expr}
end
def Z2(x:Str):It:=⟨λi _=>i<x.cps.size,λi H v H'=>H'=H/\∃c,x.cps[i]? =some c/\v= .str ⟨#[c]⟩,λi _=>x.cps.size<=i⟩
theorem G8{K:PySem.W.Frag}(it:Addr)(x:Str)(t:Tok)(ty:String)(UY:ty="str_ascii_iterator"\/ty="str_iterator"):
  Turn P w K tg (Z2 x) [it] it (λi h=>h.IsStrIter it ty x t i) where
 mem:=by simp
 obj:=λi h st b hb=>by
  have e:b=it:=by simpa using hb
  subst e;obtain⟨o,e,c,d⟩:=st;exact⟨o,e,λv z=>by rw[d]at z;cases z⟩
 keep:=λi h h' st k=>let ⟨o,ho,r⟩:=st;⟨o,k it (by simp) o ho,r⟩
 item:=by
  intro X hP hw hK hc i pins s σ H E I hf st hg;subst hP hw hK;obtain⟨f0,f1,f2,f3,f4,f5⟩:=hf it (by simp);have W:Walks X.prog X.w X.A it [it] [it] x.cps.size (SignAt x) (λi h=>h.IsStrIter it ty x t i):=by
   rcases UY with e|e
   ·rw[e];exact Walks.strAscii (I.ok.hd hc) it x t
   ·rw[e];exact Walks.strWide (I.ok.hd hc) it x t
  have Zb:["enumerate","zip","dict_itemiterator","dict_reverseitemiterator","odict_iterator","itertools.zip_longest","itertools.pairwise"].contains ty=false:=by
   rcases UY with e|e
   ·rw[e];decide
   ·rw[e];decide
  refine W.item i s _ _ hg st λv h' tk hv P_ kk=>?_
  obtain⟨c,u,hcx,rfl⟩:=hv;have I1:Inv X pins σ H {s with heap:=h',toks:=tk}:=I.turned (λb o hb e=>kk b o (by simpa using hb) e) f0 f1 f3 f4 f5;obtain⟨oi,e,cc,dd⟩:=id P_;exact⟨_,rfl,Ms (s:={s with heap:=h',toks:=tk}) e cc dd Zb ⟨.str ⟨#[c]⟩,H,I1,⟨u,rfl⟩,⟨rfl,c,hcx,rfl⟩,P_,λb hb=>(hf b hb).1⟩⟩
 done:=by
  intro X hP hw hK hc i pins s σ H E I hf st hg;subst hP hw hK;obtain⟨f0,f1,f2,f3,f4,f5⟩:=hf it (by simp);have hx:x.cps[i]? =none:=Array.getElem?_eq_none hg;rcases UY with e|e
  ·rw[e]at st;exact wpAny_pyNext_ascii_end (I.ok.hd hc) st hx λh' eb=>⟨rfl,I.turned (t':=s.toks) (λb o hb e=>eb b o hb e) f0 f1 f3 f4 f5⟩
  ·rw[e]at st;exact wpAny_pyNext_wide_end (I.ok.hd hc) st hx λh' eb=>⟨rfl,I.turned (t':=s.toks) (λb o hb e=>eb b o hb e) f0 f1 f3 f4 f5⟩
 self:=λA i s Q E st h=>by
  rcases UY with e|e
  ·rw[e]at st;exact wpAny_pyIter_striter_ascii st h
  ·rw[e]at st;exact wpAny_pyIter_striter_wide st h
def abI(te:TE):TI:=λσ H R=>te σ H λv H1=>∃x,v= .str x/\R (Z2 x) H1
theorem Qz(he:PE X e te):PI X tg e (abI te):=by
 intro pins s σ H R I h;refine c_ (he pins s σ H _ I h) λv s1 ⟨y,H1,I1,r1,x,ex,q⟩=>?_
 subst ex;obtain⟨t,rfl⟩:=r1;cases ha:x.cps.all (· <128)
 ·exact wpAny_pyIter_wide ha (J7 (tk:=s1.toks) I1 _ (G8 _ x t "str_iterator" (.inr rfl)) ⟨_,Heap.get?_push_size _ rfl,rfl,rfl⟩ q)
 ·exact wpAny_pyIter_ascii ha (J7 (tk:=s1.toks) I1 _ (G8 _ x t "str_ascii_iterator" (.inl rfl)) ⟨_,Heap.get?_push_size _ rfl,rfl,rfl⟩ q)
section
variable {prog:Program} {w:World} {A:Around} {E:Value->Shared->Prop} {s:Shared}
end
section
variable {X:Cx} {pins:List (Addr×Obj)} {σ:St} {H:Hp} {s:Shared} {d:Addr} {o:Obj}
end
section
variable {P:Program} {w:World} {K:PySem.W.Frag} {tg:Expr} {d:Addr} {o:Obj} {es:Array DictEntry} {ep:Nat}
end
section
variable {X:Cx} {tg e:Expr} {td:TE} {apos iu:Pos}
end
def Z3(K:PySem.W.Frag)(a:Addr):It:=
 ⟨λi H=>∃(xs:List V) (x:V),bp K H a xs/\xs[i]? =some x,λi H v H'=>∃T x,v= .ref T/\H T=none/\H'=upd H T (.tup [.int (i:Nat),x])/\∀xs,bp K H a xs->xs[i]? =some x,λi H=>∃xs:List V,bp K H a xs/\xs.length<=i⟩
theorem M0{K:PySem.W.Frag}(a e it:Addr):
  Turn P w K (.Tuple elts kk SW) (Z3 K a) [e,it] e (λi h=>(∃old,IsEnum h e it ((i:Nat):Int) old)/\h.IsListIter it a i/\e≠it) where
 mem:=by simp
 obj:=λi h st b hb=>by
  obtain⟨⟨old,he⟩,⟨o,ho,hc,hd⟩,_⟩:=st;have e':b=e\/b=it:=by simpa using hb
  rcases e' with z|z
  ·rw[z];exact⟨_,he,λv q=>nomatch q⟩
  ·rw[z];exact⟨o,ho,λv q=>by rw[hd]at q;cases q⟩
 keep:=λi h h' st k=>let ⟨⟨old,he⟩,hi,fR⟩:=st;⟨⟨old,k e (by simp) _ he⟩,hi.at λo q=>k it (by simp) o q,fR⟩
 item:=by
  intro X hP hw hK hc i pins s σ H E I hf st hg;subst hP hw hK;obtain⟨⟨old,he⟩,hit,fR⟩:=st;obtain⟨xs,x,hq,hx⟩:=hg;obtain⟨its,rv,p,hz⟩:=I.list hq;obtain⟨u,hu,ru⟩:=rv.get hx;have hel:e<s.heap.objs.size:=Heap.lt_size he;have Xs:it<s.heap.objs.size:=by obtain⟨_,q,_⟩:=hit;exact Heap.lt_size q
  refine wpAny_pyNext_enum_item he hit p.isList (x:=u) (by simpa using hu) fR λh' ho abW hT hsz hk=>?_
  refine⟨_,rfl,wpAny_letOwnedTupleGo_enum (s:={s with heap:=h',toks:=s.toks+1}) ho λh'' he' sb=>?_⟩;have hT2:h''.get? s.heap.objs.size=some {cls:=.type "tuple",data:=.seq #[.int i s.toks,u]}:=(sb.2 _ (Nat.ne_of_gt hel)).trans hT;have new:dO X.prog X.w (upd H s.heap.objs.size (.tup [.int (i:Nat),x])) h'' s.heap.objs.size (.tup [.int (i:Nat),x]):=
   ⟨by show 2<=sizeLine;decide,[.int i s.toks,u],.cons ⟨_,rfl⟩ (.cons ru .nil),⟨_,hT2,rfl,_,rfl⟩⟩
  have I1:Inv X pins σ (upd H s.heap.objs.size (.tup [.int (i:Nat),x])) {s with heap:=h'',toks:=s.toks+1}:=
   I.MY (ch:=[e,it]) (λb ob hb q=>(sb.2 b (λz=>hb (by simp[z]))).trans (hk b ob (λz=>hb (by simp[z])) (λz=>hb (by simp[z])) q)) hf (aM _) new
  refine⟨.ref s.heap.objs.size,_,I1,rfl,⟨_,x,rfl,I.cM.fresh (aM _),rfl,λys hy=>by rw[I.Iy hy hq];exact hx⟩,⟨⟨u,?_⟩,abW.at λo q=>(sb.2 it (Ne.symm fR)).trans q,fR⟩,λb hb=>?_⟩
  ·have e1:((i+1:Nat):Int)=(i:Int)+1:=by omega
   rw[e1];exact he'
  ·have GY:b<s.heap.objs.size:=by
    have e':b=e\/b=it:=by simpa using hb
    rcases e' with z|z
    ·rw[z];exact hel
    ·rw[z];exact Xs
   rw[ao (Nat.ne_of_lt GY)];exact(hf b hb).1
 done:=by
  intro X hP hw hK hc i pins s σ H E I hf st hg;subst hP hw hK;obtain⟨⟨old,he⟩,hit,fR⟩:=st;obtain⟨xs,hq,hx⟩:=hg;obtain⟨its,rv,p,hz⟩:=I.list hq;obtain⟨f0,f1,f2,f3,f4,f5⟩:=hf it (by simp);have hl:=rv.length;exact wpAny_pyNext_enum_end (I.ok.hd hc) he hit p.isList (by simp;omega) λh' eb=>⟨rfl,I.turned (t':=s.toks) (λb o hb q=>eb b o hb q) f0 f1 f3 f4 f5⟩
 self:=λA i s Q E st h=>let ⟨⟨_,he⟩,_⟩:=st;wpAny_pyIter_enum he h
def YY(K:PySem.W.Frag)(ta:TA):TI:=λσ H R=>ta σ H λvs H1=>∃a xs,vs=[.ref a]/\bp K H1 a xs/\R (Z3 K a) H1
theorem Tn(hg:Gl X "enumerate")(hm:X.mg "enumerate"=none)(ha:PA X [e] ta)(hs:starEach [e] X.env=[(false,eval e X.env)]:=by rfl):
  PI X (.Tuple elts kk SW) (.Call (.Name "enumerate" p) [e] [] pos) (YY X.K ta):=by
 intro pins s σ H R I h;refine Call_ (nU I hg hm boot_enumerate (PyProof.Rows.callWith_type1 (c_ (ha pos pins s σ H _ I h) λus s1 ⟨vs,H1,I1,r1,q1⟩=>?_) hs rfl));obtain⟨a,xs,ex,hq,q⟩:=q1;subst ex;cases r1 with
 |cons r rr=>
  cases rr;cases r;obtain⟨its,rv,p',hz⟩:=I1.list hq;refine call_enumerate_list p'.isList λh' he hit hsz hk=>wpAny_pyIter_enum he ?_
  have I2:Inv X pins σ H1 {s1 with heap:=h'}:=I1.kept (t':=s1.toks) hk;refine⟨s1.heap.objs.size+1,[s1.heap.objs.size+1,s1.heap.objs.size],_,_,H1,rfl,I2,M0 a (s1.heap.objs.size+1) s1.heap.objs.size,⟨⟨.none,he⟩,hit,Nat.succ_ne_self _⟩,λb hb=>?_,q⟩;have e':b=s1.heap.objs.size+1\/b=s1.heap.objs.size:=by simpa using hb
  have hle:s1.heap.objs.size<=b:=by
   rcases e' with z|z
   ·rw[z];exact Nat.le_add_right _ _
   ·rw[z];exact aM _
  exact I1.RG hle (I1.cM.fresh hle)
end L2
section
namespace Z8
open PySem PyProof.Rows
theorem R9(hx:0<=x)(hy:0<=y):Builtin.bitOr x y=((x.toNat|||y.toNat:Nat):Int):=by
 have e:=nat_or_add_and x.toNat y.toNat;rw[bitOr_and,bitAnd_pp hx hy];omega
end Z8
end
section
namespace TL
open PySem PySem.Builtin PySem.Builtin.Str PySem.StrLaws
abbrev tl(x:Str):List Nat:=x.cps.toList
theorem wq(x:Str):x.length=(tl x).length:=by simp[tl,Str.length]
theorem RO(h:tl x=tl y):x=y:=Str.ext' (Array.toList_inj.mp h)
theorem Dr(x y:Str):tl (x++y)=tl x++tl y:=by
 show(x++y).cps.toList=_;rw[Str.cps_append,Array.toList_append]
theorem YM(x:Str):(⟨(tl x).toArray⟩:Str)=x:=RO rfl
def pre(S l:List Nat):Bool:=l.take S.length==S
def xU(S:List Nat):Nat->List Nat->List Nat->List (List Nat)
 |_,acc,[]=>[acc]
 |0,acc,c::r=>if pre S (c::r)=true then acc::xU S (S.length - 1) [] r else xU S 0 (acc++[c]) r
 |k+1,acc,_::r=>xU S k acc r
theorem EF(S:List Nat)(k:Nat)(acc:List Nat):xU S k acc []=[acc]:=by cases k<;>rfl
theorem LQ(h:pre S (c::r)=true):xU S 0 acc (c::r)=acc::xU S (S.length - 1) [] r:=by
 show(if pre S (c::r)=true then acc::xU S (S.length - 1) [] r else xU S 0 (acc++[c]) r)=_;rw[ai h]
theorem Hk(h:pre S (c::r)=false):xU S 0 acc (c::r)=xU S 0 (acc++[c]) r:=by
 show(if pre S (c::r)=true then acc::xU S (S.length - 1) [] r else xU S 0 (acc++[c]) r)=_;rw[ah (by rw[h];exact az)]
theorem Hj(S:List Nat):∀(k:Nat) (acc l:List Nat),xU S k acc l=xU S 0 acc (l.drop k)
 |0,_,_=>by rw[List.drop_zero]
 |k+1,acc,[]=>by rw[List.drop_nil,EF,EF]
 |k+1,acc,c::r=>by
  show xU S k acc r=xU S 0 acc (r.drop k);exact Hj S k acc r
theorem Ti(hS:S≠[]):pre S []=false:=by
 cases S with
 |nil=>exact absurd rfl hS
 |cons s S=>rfl
theorem uU{L:List Nat}(h:a<L.length):∃c,L.drop a=c::L.drop (a+1):=⟨L[a],eT h⟩
theorem EE(S L:List Nat):∀(m a:Nat) (acc:List Nat),a+m<=L.length->(∀k,a<=k->k<a+m->pre S (L.drop k)=false)->
  xU S 0 acc (L.drop a)=xU S 0 (acc++(L.drop a).take m) (L.drop (a+m))
 |0,a,acc,_,_=>by rw[List.take_zero,gW,Nat.add_zero]
 |m+1,a,acc,h,hn=>by
  have eP:a<L.length:=by omega
  obtain⟨c,e⟩:=uU eP;have h0:=hn a (aM _) (by omega);have ih:=EE S L m (a+1) (acc++[c]) (by omega) (λk h1 h2=>hn k (by omega) (by omega));have e2:a+1+m=a+(m+1):=by omega
  rw[e2]at ih;rw[e]at h0;rw[e,Hk h0,ih,List.take_succ_cons,dF]<;>rfl
theorem RT(L:List Nat)(a b:Nat):(L.drop a).drop b=L.drop (a+b):=by
 first
  |rw[List.drop_drop]
  |rw[List.drop_drop,Nat.add_comm]
theorem Vz{L:List Nat}(hS:S≠[])(h:pre S (L.drop c)=true):xU S 0 acc (L.drop c)=acc::xU S 0 [] (L.drop (c+S.length)):=by
 rw[<-RT];cases e:L.drop c with
 |nil=>rw[e,Ti hS]at h;cases h
 |cons d r=>
  rw[e]at h;rw[LQ h,Hj];cases S with
  |nil=>exact absurd rfl hS
  |cons s S=>rfl
theorem Sa(hy:tl y≠[])(i:Nat):At x y x.length i↔pre (tl y) ((tl x).drop i)=true:=by
 have hx:=wq x;have hl:=wq y;constructor
 ·intro h;have h2:=h.2;rw[subAt_eq,hl]at h2;exact h2
 ·intro h;have e:((tl x).drop i).take (tl y).length=tl y:=eq_of_beq h;have e1:=congrArg List.length e;rw[bE,a_]at e1;have e2:0<(tl y).length:=List.length_pos_iff.mpr hy;refine⟨by omega,?_⟩;rw[subAt_eq,hl];exact h
theorem UQ(hy:tl y≠[])(h:¬At x y x.length i):pre (tl y) ((tl x).drop i)=false:=by
 cases hp:pre (tl y) ((tl x).drop i)with
 |false=>rfl
 |true=>exact absurd ((Sa hy i).mpr hp) h
theorem abG(hy:tl y≠[]):1<=y.length:=by
 have e2:0<(tl y).length:=List.length_pos_iff.mpr hy;rw[wq y];exact e2
theorem Dq(x:Str)(i j:Nat):tl (strSub x i j)=((tl x).drop i).take (j - i):=strSub_toList x i j
theorem BE(x:Str)(i:Nat):tl (strSub x i x.length)=(tl x).drop i:=by
 rw[Dq,wq x];exact eD (by rw[a_]<;>omega)
theorem DK(hy:tl y≠[]):∀(ZQ:List Nat) (a f:Nat),a<=(tl x).length->ChainG x y x.length a ZQ f->(∀k,f<=k->¬At x y x.length k)->
  (partsFrom x y.length a ZQ).map tl=xU (tl y) 0 [] ((tl x).drop a)
 |[],a,f,ha,h,hn=>by
  have e:f=a:=h;subst e;show [tl (strSub x f x.length)]=_;have run:=EE (tl y) (tl x) ((tl x).length - f) f [] (by omega) (λk h1 _=>UQ hy (hn k h1));have e2:f+((tl x).length - f)=(tl x).length:=by omega
  rw[e2,List.drop_length,EF,List.nil_append,eD (by rw[a_]<;>omega)]at run;rw[run,BE]
 |c::r,a,f,ha,h,hn=>by
  obtain⟨h1,h2,h3,h4⟩:=h;have hc:c+y.length<=x.length:=h2.1;have hx:=wq x;have hl:=wq y;have ih:=DK hy r (c+y.length) f (by omega) h4 hn;show tl (strSub x a c)::(partsFrom x y.length (c+y.length) r).map tl=_;have run:=EE (tl y) (tl x) (c - a) a [] (by omega) (λk k1 k2=>UQ hy (h3 k k1 (by omega)));have e2:a+(c - a)=c:=by omega
  rw[e2,List.nil_append,Vz hy ((Sa hy c).mp h2)]at run;rw[run,ih,Dq,hl]
theorem M8(x y:Str)(hy:tl y≠[])(hk:¬Builtin.Str.strKind x<Builtin.Str.strKind y):(Txt.split x y).map tl=xU (tl y) 0 [] (tl x):=by
 obtain⟨f,g,hn⟩:=occ_tight x y (abG hy);have key:=DK hy _ 0 f (bw _) g hn;rw[List.drop_zero]at key;have DT:occurrences x y 0 x.length (x.length+1)=[]->[x].map tl=xU (tl y) 0 [] (tl x):=λho=>by
  rw[ho]at key;rw[<-key];show [tl x]=[tl (strSub x 0 x.length)];rw[sub_whole]
 unfold Txt.split;by_cases h1:(decide (x.length<y.length)||decide (Builtin.Str.strKind x<Builtin.Str.strKind y))=true
 ·rw[ai h1];have eP:x.length<y.length:=by
   simp only [Bool.or_eq_true,decide_eq_true_eq]at h1;rcases h1 with h|h
   ·exact h
   ·exact absurd h hk
  refine DT ?_;cases ho:occurrences x y 0 x.length (x.length+1)with
  |nil=>rfl
  |cons c r=>
   rw[ho]at g;have hc:c+y.length<=x.length:=g.2.1.1;omega
 ·rw[ah h1];by_cases h2:(occurrences x y 0 x.length (x.length+1)).isEmpty=true
  ·rw[ai h2];exact DT (List.isEmpty_iff.mp h2)
  ·rw[ah h2,partsBetween_eq];exact key
theorem T1{y:Str}(h:y.cps.all (· <256)=true):¬Builtin.Str.strKind x<Builtin.Str.strKind y:=by
 have e:Builtin.Str.strKind y=1:=by unfold PySem.Builtin.Str.strKind;rw[ai h]
 rw[e];unfold PySem.Builtin.Str.strKind;split
 ·omega
 ·split<;>omega
def D0(S:List Nat):List (List Nat)->List Nat
 |[]=>[]
 |[p]=>p
 |p::q::r=>p++(S++D0 S (q::r))
theorem LL(y:Str):∀parts:List Str,tl (Str.join y parts)=D0 (tl y) (parts.map tl)
 |[]=>rfl
 |[_]=>rfl
 |x::z::r=>by
  show tl (x++y++Str.join y (z::r))=tl x++(tl y++D0 (tl y) ((z::r).map tl));rw[Dr,Dr,LL y (z::r),dF]
theorem join_eq(y:Str)(parts:List Str):Txt.join y parts=Str.join y parts:=glued_eq_join y parts
end TL
end
namespace L2
open PySem PySem.Spec PyProof.Rows
theorem TK(h:n<=16777216):Builtin.Str.tooLong n=false:=by
 have e:(2:Nat) ^ 24=16777216:=by decide
 unfold Builtin.Str.tooLong sizeLine;exact aQ (by omega)
theorem Dm:∀l:List (Str×Tok),Vals ((l.map (·.1)).map V.str) (strValues l)
 |[]=>.nil
 |p::r=>.cons ⟨p.2,rfl⟩ (Dm r)
theorem mw:∀{ys:List Str} {us:List Value},Vals (ys.map V.str) us->StrsAre us ys
 |[],_,.nil=>.nil
 |y::ys,_,.cons r t=>by
  obtain⟨k,rfl⟩:=r;exact .cons y k (mw t)
def zR(ys:List Str):Hp->VK->Prop:=λH Q=>∀p,H p=none->Q (.ref p) (upd H p (.lst (ys.map V.str)))
section
variable {X:Cx} {pins:List (Addr×Obj)} {σ:St} {H:Hp} {s:Shared} {Q:VK}
theorem wy{l:List (Str×Tok)}{k:Nat}(I:Inv X pins σ H s)(e:l.map (·.1)=ys)(hz:ys.length<=sizeLine)(h:zR ys H Q):
  EP X pins σ Q (.ref s.heap.objs.size) {s with toks:=k,heap:=s.heap.push {cls:=.type "list",data:=.seq (strValues l).toArray}}:=by
 have hp:=I.cM.fresh (aM _);refine⟨.ref s.heap.objs.size,upd H s.heap.objs.size (.lst (ys.map V.str)),I.laid (λb u q=>Heap.get?_push_of_some _ q) (aM _) ⟨by rw[aH];exact hz,strValues l,_,?_,Heap.get?_push_size _ rfl⟩,rfl,h _ hp⟩;rw[<-e];exact Dm l
end
section
variable {X:Cx}
theorem Ra:Si X "str.split" (λx xs H Q=>∃a b,x= .str a/\xs=[.str b]/\(b.length==0)=false/\a.length+2<=sizeLine/\zR (Txt.split a b) H Q):=by
 intro pins s σ H x xs v us Q I rx rs h;obtain⟨a,b,rfl,rfl,hb,hz,h⟩:=h;obtain⟨t,rfl⟩:=rx;cases rs with
 |cons r1 rs=>
  cases rs;obtain⟨u,rfl⟩:=r1;have hl:(Txt.split a b).length<=sizeLine:=a8 (PyProof.Rows.split_le a b) hz;have hn:(Builtin.Str.partsBetween a (Builtin.Str.occurrences a b 0 a.length (a.length+1)) b.length).length<=sizeLine:=by
   have e1:=StrLaws.occ_length_le a b 0 a.length (a.length+1);rw[length_partsBetween];omega
  cases h1:(decide (a.length<b.length)||decide (Builtin.Str.strKind a<Builtin.Str.strKind b))
  ·cases hf:(Builtin.Str.occurrences a b 0 a.length (a.length+1)).isEmpty
   ·refine call_meets F.slot_str_split (typeIs_str _ _ _) F.entry_str_split (F.args_str_split_2 _ _) (meets_str_split_sep a b t u h1 hb hf (by omega) hn) ?_;show EP X pins σ Q (.ref s.heap.objs.size) {s with toks:=_,heap:=s.heap.push {cls:=.type "list",data:=.seq (strsFrom s.toks (Builtin.Str.partsBetween a (Builtin.Str.occurrences a b 0 a.length (a.length+1)) b.length)).toArray}};rw[strsFrom_eq];exact wy (ys:=Txt.split a b) I ((numbered_texts _ _).trans ((ah (ne_true_of_eq_false h1)).trans (ah (ne_true_of_eq_false hf))).symm) hl h
   ·refine call_meets F.slot_str_split (typeIs_str _ _ _) F.entry_str_split (F.args_str_split_2 _ _) (meets_str_split_not_found a b t u h1 hb hf) ?_;exact wy (l:=[(a,t)]) (ys:=Txt.split a b) (k:=s.toks) I ((ah (ne_true_of_eq_false h1)).trans (ai hf)).symm hl h
  ·refine call_meets F.slot_str_split (typeIs_str _ _ _) F.entry_str_split (F.args_str_split_2 _ _) (meets_str_split_cannot_occur a b t u h1) ?_;exact wy (l:=[(a,t)]) (ys:=Txt.split a b) (k:=s.toks) I (ai h1).symm hl h
theorem TQ:Si X "str.join" (λx xs H Q=>∃a p,∃ys:List Str,x= .str a/\xs=[.ref p]/\(bp X.K H p (ys.map V.str)\/rB X.K H p (ys.map V.str))/\
  (ys.map (·.length)).sum+ys.length*a.length<=16777216/\Q (.str (Txt.join a ys)) H):=by
 intro pins s σ H x xs v us Q I rx rs h;obtain⟨a,p,ys,rfl,rfl,hp,hz,h⟩:=h;obtain⟨t,rfl⟩:=rx;cases rs with
 |cons r1 rs=>
  cases rs;cases r1;rcases hp with hp|hp
  ·obtain⟨its,r,⟨o,n,ho,hc,_,hd⟩,_⟩:=I.list hp;exact PyProof.Rows.join_list (items:=its.toArray) ⟨o,ho,hc,n,hd⟩ (by rw[List.toList_toArray];exact mw r) hz λt' k=>⟨.str _,H,I.tok k,⟨t',rfl⟩,h⟩
  ·obtain⟨its,r,ht,_⟩:=I.tuple hp;exact PyProof.Rows.join_tuple (items:=its.toArray) ht (by rw[List.toList_toArray];exact mw r) hz λt' k=>⟨.str _,H,I.tok k,⟨t',rfl⟩,h⟩
theorem mt0{id:String}{C:Str->Prop}{g:Str->V}(rule:∀(a:Str) (t:Tok) (s:Shared) (Q:Value->Shared->Prop),C a->(∀(u:Value) (k:Nat),RelV (g a) u->Q u {s with toks:=k})->
  wpAny (model X.prog X.w) X.A (call (.builtin id) [.str a t]) Q X.xe s):Si X id (λx xs H Q=>∃a,x= .str a/\xs=[]/\C a/\Q (g a) H):=by
 intro pins s σ H x xs v us Q I rx rs h;obtain⟨a,rfl,rfl,hc,h⟩:=h;obtain⟨t,rfl⟩:=rx;cases rs;exact rule a t s _ hc λu k r=>⟨g a,H,I.tok k,r,h⟩
theorem Rb:Si X "str.lower" (λx xs H Q=>∃a,x= .str a/\xs=[]/\a.length<=5592405/\Q (.str (Txt.lower a)) H):=
 mt0 (C:=λa=>a.length<=5592405) (g:=λa=>.str (Txt.lower a)) λa _ s _ hc h=>
  PySem.SC.lower (TK (by have h1:a.length<=5592405:=hc;have:=PyProof.Rows.len_lower a;omega)) (h _ (s.toks+1) ⟨_,rfl⟩)
theorem mt1{id:String}{g:Str->Str->V}(rule:∀(a b:Str) (t u:Tok) (s:Shared) (Q:Value->Shared->Prop),(∀(v:Value) (k:Nat),RelV (g a b) v->Q v {s with toks:=k})->
  wpAny (model X.prog X.w) X.A (call (.builtin id) [.str a t,.str b u]) Q X.xe s):Si X id (λx xs H Q=>∃a b,x= .str a/\xs=[.str b]/\Q (g a b) H):=by
 intro pins s σ H x xs v us Q I rx rs h;obtain⟨a,b,rfl,rfl,h⟩:=h;obtain⟨t,rfl⟩:=rx;cases rs with
 |cons r1 rs=>
  cases rs;obtain⟨u,rfl⟩:=r1;exact rule a b t u s _ λv k r=>⟨g a b,H,I.tok k,r,h⟩
theorem Cn:Si X "str.startswith" (λx xs H Q=>∃a b,x= .str a/\xs=[.str b]/\Q (.bl (Txt.startswith a b)) H):=
 mt1 (g:=λa b=>.bl (Txt.startswith a b)) λ_ _ _ _ s _ h=>PySem.SC.startswith (h _ s.toks rfl)
theorem TR:Si X "str.find" (λx xs H Q=>∃a b,x= .str a/\xs=[.str b]/\Q (.int (Txt.find a b)) H):=
 mt1 (g:=λa b=>.int (Txt.find a b)) λ_ _ _ _ s _ h=>PySem.SC.find (h _ (s.toks+1) ⟨_,rfl⟩)
end
section
variable {X:Cx} {o e:Expr} {to te:TE}
def tM0(r:V->List V->Hp->VK->Prop)(to:TE):TE:=λσ H Q=>to σ H λx H1=>(∃a,x= .str a)/\r x [] H1 Q
def tM1(r:V->List V->Hp->VK->Prop)(to te:TE):TE:=λσ H Q=>to σ H λx H1=>(∃a,x= .str a)/\te σ H1 λy H2=>r x [y] H2 Q
theorem Yx{id:String}{apos pos:Pos}{r:V->List V->Hp->VK->Prop}(slot:Slot "str" name id)(ty:typeOf (.builtin id)=pure (.type "method_descriptor"))(rule:Si X id r)(ho:PE X o to)
  (j9:attributeBase o name X.env (eval o X.env)=eval o X.env:=by rfl) (jd:(apos.endLine==pos.line)=true:=by rfl):PE X (.Call (.Attribute o name apos) [] [] pos) (tM0 r to):=by
 intro pins s σ H Q I h;refine PySem.Call_method0 j9 jd (c_ (ho pins s σ H _ I h) λv s1 ⟨x,H1,I1,r1,q1⟩=>?_);obtain⟨⟨a,rfl⟩,q1⟩:=q1;obtain⟨t,rfl⟩:=_root_.id r1;exact⟨"str",_,F.plainAttrs_str,slot,ty,typeIs_str _ _ _,(λ_ e=>nomatch e),Calls.callWith_builtin rfl (PySem.evalArgs_none (rule pins s1 σ H1 _ [] _ [] Q I1 r1 .nil q1))⟩
theorem Mb{id:String}{apos pos:Pos}{r:V->List V->Hp->VK->Prop}(slot:Slot "str" name id)(ty:typeOf (.builtin id)=pure (.type "method_descriptor"))(rule:Si X id r)(ho:PE X o to)(he:PE X e te)
  (hs:starEach [e] X.env=[(false,eval e X.env)]:=by rfl) (j9:attributeBase o name X.env (eval o X.env)=eval o X.env:=by rfl) (jd:(apos.endLine==pos.line)=true:=by rfl):
  PE X (.Call (.Attribute o name apos) [e] [] pos) (tM1 r to te):=by
 intro pins s σ H Q I h;refine PySem.Call_method1 j9 hs jd (c_ (ho pins s σ H _ I h) λv s1 ⟨x,H1,I1,r1,q1⟩=>?_);obtain⟨⟨a,rfl⟩,q1⟩:=q1;obtain⟨t,rfl⟩:=_root_.id r1;refine⟨"str",_,F.plainAttrs_str,slot,ty,typeIs_str _ _ _,(λ_ e=>nomatch e),Calls.callWith_builtin rfl (Calls.evalArgs_plain (Calls.spliced_cons ?_))⟩;exact c_ (he pins s1 σ H1 _ I1 q1) λu s2 ⟨y,H2,I2,r2,q2⟩=>Calls.spliced_nil (rule pins s2 σ H2 _ [y] _ [u] Q I2 r1 (.cons r2 .nil) q2)
theorem QB{apos pos:Pos}(ho:PE X o to)(he:PE X e te)(hs:starEach [e] X.env=[(false,eval e X.env)]:=by rfl)(j9:attributeBase o "split" X.env (eval o X.env)=eval o X.env:=by rfl)(jd:(apos.endLine==pos.line)=true:=by rfl):
  PE X (.Call (.Attribute o "split" apos) [e] [] pos) (tM1 (λx xs H Q=>∃a b,x= .str a/\xs=[.str b]/\(b.length==0)=false/\a.length+2<=sizeLine/\zR (Txt.split a b) H Q) to te):=
 Mb F.slot_str_split F.type_str_split Ra ho he hs j9 jd
theorem Tr{apos pos:Pos}(ho:PE X o to)(he:PE X e te)(hs:starEach [e] X.env=[(false,eval e X.env)]:=by rfl)(j9:attributeBase o "join" X.env (eval o X.env)=eval o X.env:=by rfl)(jd:(apos.endLine==pos.line)=true:=by rfl):
  PE X (.Call (.Attribute o "join" apos) [e] [] pos) (tM1 (λx xs H Q=>∃a p,∃ys:List Str,x= .str a/\xs=[.ref p]/\(bp X.K H p (ys.map V.str)\/rB X.K H p (ys.map V.str))/\
   (ys.map (·.length)).sum+ys.length*a.length<=16777216/\Q (.str (Txt.join a ys)) H) to te):=
 Mb F.slot_str_join F.type_str_join TQ ho he hs j9 jd
theorem QF{apos pos:Pos}(ho:PE X o to)(j9:attributeBase o "lower" X.env (eval o X.env)=eval o X.env:=by rfl)(jd:(apos.endLine==pos.line)=true:=by rfl):
  PE X (.Call (.Attribute o "lower" apos) [] [] pos) (tM0 (λx xs H Q=>∃a,x= .str a/\xs=[]/\a.length<=5592405/\Q (.str (Txt.lower a)) H) to):=
 Yx F.slot_str_lower F.type_str_lower Rb ho j9 jd
end
end L2
namespace L2
open PySem PySem.Spec PyProof.Rows
section
variable {X:Cx}
theorem sf:sZ X (compareOp .In) (λx y H Q=>∃(c:Nat) (z:Str),x= .str ⟨#[c]⟩/\y= .str z/\Q (.bl (decide (c∈z.cps.toList))) H):=by
 intro pins s σ H x y v u Q I rx ry h;obtain⟨c,z,rfl,rfl,q⟩:=h;obtain⟨t,rfl⟩:=rx;obtain⟨t',rfl⟩:=ry;exact PyProof.Rows.in_str (b8 I q (PySem.StrLaws.found_one z c).symm)
end
theorem IsPart.raw(p:IsPart v o):∃l:Option (Int×Tok),v=partValue l/\l.map (·.1)=o:=by
 cases p with
 |none=>exact⟨none,rfl,rfl⟩
 |int i t=>exact⟨some (i,t),rfl,rfl⟩
def Jh(n d:Nat):Option Int->Int
 |none=>(d:Int)
 |some i=>max 0 (min (if i<0 then i+(n:Int)else i) (n:Int))
theorem Jg(n d:Nat)(o:Option Int):Jh n d o=((HT.jG n d o:Nat):Int):=by
 cases o with
 |none=>rfl
 |some v=>
  show max (0:Int) (min (if v<0 then v+(n:Int)else v) (n:Int))=(((if v<0 then(v+(n:Int)).toNat else min v.toNat n):Nat):Int);by_cases hv:v<0
  ·simp only [ai hv];omega
  ·simp only [ah hv];omega
theorem Ng(a b:Option Int)(n:Nat):Builtin.Str.strSliceIndices a b 1 n=sliceRange (Jh n 0 a) (Jh n n b) 1:=by
 have h1:((1:Int)>0)=True:=by simp
 cases a<;>cases b<;>first
  |rfl
  |(simp only [Builtin.Str.strSliceIndices,Jh,h1,if_true];rfl)
  |simp[Builtin.Str.strSliceIndices,Jh]
theorem abk(a b:Option Int)(n:Nat):Builtin.Str.strSliceIndices a b 1 n=(List.range (HT.jG n n b - HT.jG n 0 a)).map (λk=>HT.jG n 0 a+k):=by
 rw[Ng,Jg,Jg];generalize HT.jG n 0 a=p;generalize HT.jG n n b=q;simp only [sliceRange,show((1:Int)>0)=True from by simp,if_true];by_cases eP:(p:Int)<q
 ·have e3:(((q:Int) - p+1 - 1) / 1).toNat=q - p:=by first|omega|(simp;done)|(simp;omega)
  simp only [eP,if_true,e3];refine List.map_congr_left λk _=>?_
  omega
 ·have:q - p=0:=by omega
  simp[eP,this]
def CU(z:Str)(lo hi:Option Int):Str:=
 ⟨((z.cps.toList.drop (HT.jG z.length 0 lo)).take (HT.jG z.length z.length hi - HT.jG z.length 0 lo)).toArray⟩
theorem rf(z:Str)(lo hi:Option Int):PySem.StrLaws.sliceText z lo hi=CU z lo hi:=by
 have h1:HT.jG z.length 0 lo<=z.length:=HT.Qj _ _ (bw _) _;have h2:HT.jG z.length z.length hi<=z.length:=HT.Qj _ _ (aM _) _;have hp:HT.jG z.length 0 lo<=max (HT.jG z.length 0 lo) (HT.jG z.length z.length hi):=Nat.le_max_left _ _;have hq:max (HT.jG z.length 0 lo) (HT.jG z.length z.length hi)<=z.length:=Nat.max_le.mpr ⟨h1,h2⟩;have hd:max (HT.jG z.length 0 lo) (HT.jG z.length z.length hi) - HT.jG z.length 0 lo=HT.jG z.length z.length hi - HT.jG z.length 0 lo:=by omega
 have e:Builtin.Str.strSliceIndices lo hi 1 z.length=
   Builtin.Str.strSliceIndices (some ((HT.jG z.length 0 lo:Nat):Int)) (some ((max (HT.jG z.length 0 lo) (HT.jG z.length z.length hi):Nat):Int)) 1 z.length:=by
  rw[PySem.StrLaws.strSliceIndices_plain hp hq,hd,abk]
 have e2:PySem.StrLaws.sliceText z lo hi=
   PySem.StrLaws.sliceText z (some ((HT.jG z.length 0 lo:Nat):Int)) (some ((max (HT.jG z.length 0 lo) (HT.jG z.length z.length hi):Nat):Int)):=by
  unfold PySem.StrLaws.sliceText;rw[e]
 rw[e2,PySem.StrLaws.sliceText_nat z hp hq,hd];rfl
theorem Jf(z:Str)(lo hi:Option Int):(CU z lo hi).length<=z.length:=by
 show(((z.cps.toList.drop (HT.jG z.length 0 lo)).take (HT.jG z.length z.length hi - HT.jG z.length 0 lo)).toArray).size<=z.cps.size;rw[bL,bE,a_,Array.length_toList];omega
inductive Qq(x:V)(lo hi:Option Int)(H:Hp)(Q:VK):Prop
 |mk (z:Str) (e:x= .str z) (f:z.length<=sizeLine) (q:Q (.str (CU z lo hi)) H):Qq x lo hi H Q
theorem EZ:SlR X Qq:=by
 intro pins s σ H x v vl vu lo hi sl Q I rx hs pl pu h;obtain⟨z,rfl,hz,q⟩:=h;obtain⟨t,rfl⟩:=rx;obtain⟨os,Y_,Xu,hds⟩:=hs;obtain⟨l,rfl,rfl⟩:=IsPart.raw pl;obtain⟨u,rfl,rfl⟩:=IsPart.raw pu;refine⟨"str",_,F.slot_str_getitem.lookup,typeIs_str _ _ _,?_⟩;refine wpAny_getItem_str_slice (l:=l) (u:=u) (st:=none) ⟨os,Y_,Xu,hds⟩ rfl ?_;have hl:(PySem.StrLaws.sliceText z (l.map (·.1)) (u.map (·.1))).length<=sizeLine:=by
  rw[rf];exact a8 (Jf z _ _) hz
 rw[<-rf]at q;unfold PySem.StrLaws.sliceText at q hl;show Made.post (if((1:Int)==1&&(Builtin.Str.strSliceIndices (l.map (·.1)) (u.map (·.1)) 1 z.length).length==z.length)=true then Made.val (.str z t)
  else Made.str ⟨((Builtin.Str.strSliceIndices (l.map (·.1)) (u.map (·.1)) 1 z.length).filterMap (z.cps[·]?)).toArray⟩) (EP X pins σ Q) s
 by_cases c:((1:Int)==1&&(Builtin.Str.strSliceIndices (l.map (·.1)) (u.map (·.1)) 1 z.length).length==z.length)=true
 ·rw[ai c]at q ⊢;exact⟨.str z,H,I,⟨t,rfl⟩,q⟩
 ·rw[ah c]at q hl ⊢;exact⟨hl,.str _,H,I.tok _,⟨_,rfl⟩,q⟩
end L2
namespace Att
open PySem PySem.W PySem.Calls PyProof.Rows
section
variable {prog:Program} {w:World} {A:Around} {E:Value->Shared->Prop} {s:Shared} {K:Frag}
theorem Uw{R:Result->Shared->Prop}{kV:Value}
  (X:K.In s.heap) (Wx:s.heap.NoLimit) (ho:K.lookup f=some ⟨oc,od,.func (fnOf name qual params body scope dV kV doc pm an bG ct),DN⟩) (yN:codeIn K bG qual=true) (Rq:A.depth<recursionLimit)
  (RB:BindsTo s (fnOf name qual params body scope dV kV doc pm an bG ct) args binds)
  (Ru:(binds.all λy=>scope.names.lookup y.1==some .local||scope.names.lookup y.1==some .cell)=true)
  (h:∀s₁,InCallC s s.heap.objs.size (bindL (envOfC qual scope s.heap.objs.size f bG).kindOf binds λ_=>none) (cellsFrom (s.heap.objs.size+1) scope.names [])
    (bindC (envOfC qual scope s.heap.objs.size f bG).kindOf binds λ_=>none) s₁->
   wpAny (model prog w) (A.deeper (envOfC qual scope s.heap.objs.size f bG)) (execs body (envOfC qual scope s.heap.objs.size f bG))
    (λfl s'=>R (.ok (.ret (match fl with| .ret v=>v|_=>.none))) s')
    (λe s'=>wpAny (model prog w) (A.deeper (envOfC qual scope s.heap.objs.size f bG)) («leaving» (envOfC qual scope s.heap.objs.size f bG) e) (λ_ VB=>R (.error e) VB) (λe' VB=>R (.error e') VB) s') s₁)
  (hco:scope.isCoroutine=false) (abX:scope.isGenerator=false) (hk:scope.kind= .function):codeAny (model prog w) A (.call (.ref f) args) R s:=by
 refine codeAny_call_function Rq (X _ _ ho) rfl hco abX rfl (codeRec_of X yN) (RB _ _ _ _ ?_);refine wpAny_newFunctionEnv_cells hk (kindsX Ru _) λenv he s₁ x=>?_
 subst he;exact⟨Wx.keeps x.toInCall.keep,codeAny_func (h s₁ x)⟩
end
end Att
namespace L2
open PySem PySem.Spec PyProof.Rows
end L2
namespace L2
open PySem PySem.Spec PyProof.Rows
end L2
namespace L2
open PySem PySem.Spec PyProof.Rows
def inClass(s:Stmt)(j:Nat):Stmt:=match s with
 | .ClassDef _ _ _ body _ _ _ _ _ _ _=>body.getD j (.Pass ⟨0,0,0,0⟩)
 |_=>.Pass ⟨0,0,0,0⟩
def ir(s:Stmt):Arguments:=match s with
 | .FunctionDef _ a _ _ _ _ _ _ _ _=>a
 |_=>{posonlyargs:=[],args:=[],vararg:=none,kwonlyargs:=[],kw_defaults:=[],kwarg:=none,defaults:=[]}
def fX(s:Stmt):List Stmt:=match s with
 | .FunctionDef _ _ b _ _ _ _ _ _ _=>b
 |_=>[]
def ak(s:Stmt):Scope:=match s with
 | .FunctionDef _ _ _ _ _ _ sc _ _ _=>sc
 |_=>{kind:=.function,names:=[],isGenerator:=false,isCoroutine:=false}
abbrev aV:JI:=λ_ _ _ _ _ _=>False
abbrev E0:XK:=λ_ _ _=>False
theorem aE:Passes aV X E0:=λ_ _ _ _ _ _ _ h=>h.elim
structure bU(K:PySem.W.Frag)(x qual:Str)(st:Stmt)(f:Addr)(fd:FuncData):Prop where
 ex:∃(oc:Value) (od:Option Addr) (kV doc pm:Value) (an:Option Addr) (bG ct:Value) (DN:Array (Option Value)),
  fd=PySem.W.fnOf x qual (ir st) (fX st) (ak st) .none kV doc pm an bG ct/\K.lookup f=some ⟨oc,od,.func fd,DN⟩/\PySem.W.codeIn K bG qual=true
 kp:PySem.W.keepIn K (.ref f)=true
section
variable {P:Program} {w:World} {K:PySem.W.Frag} {mg:Str->Option Value} {base:Heap}
theorem bU.ok{st:Stmt}{sp:Sp}(F:bU K x qual st f fd)(S:ax N ps (ak st))(len:∀vs H Q E,sp vs H Q E->vs.length=ps.length)
  (IG:∀(bG:Value) (A:Around) (outer:List Env) (s:Shared) (H:Hp) (vs:List V) (Q:VK) (E:XK),dR k (A.deeper (envOfC qual (ak st) s.heap.objs.size f bG))->sp vs H Q E->
   ∃t,JH (CS aV P w K mg base N qual (ak st) f bG A outer s H E).Mf (fX st) t/\t {nx:=λ_ H'=>Q .dt H',rt:=Q} (start N vs) H):aP P w K mg base aV (k+1) f fd ps sp:=by
 obtain⟨oc,od,kV,doc,pm,an,bG,ct,DN,rfl,lk,yN⟩:=F.ex;refine U_ lk yN S len λA outer s H vs Q E hr Px=>?_
 obtain⟨t,h,q⟩:=IG bG A outer s H vs Q E hr Px;exact⟨t,h.Mf,q⟩
theorem bU.binds{st:Stmt}{ps:List Str}(F:bU K x qual st f fd)
  (h:∀(kV doc pm:Value) (an:Option Addr) (bG ct:Value) (us:List Value),us.length=ps.length->bindArgs (PySem.W.fnOf x qual (ir st) (fX st) (ak st) .none kV doc pm an bG ct) ⟨us,[]⟩=pure (ps.zip us)):Binds K fd ps []:=by
 obtain⟨oc,od,kV,doc,pm,an,bG,ct,DN,rfl,lk,yN⟩:=F.ex;exact .all (h kV doc pm an bG ct)
theorem F0{st:Stmt}{kV:Value}(l:K.lookup f=some ⟨oc,od,.func (PySem.W.fnOf x qual (ir st) (fX st) (ak st) .none kV doc pm an bG ct),DN⟩)
  (c:PySem.W.codeIn K bG qual=true) (k:PySem.W.keepIn K (.ref f)=true):bU K x qual st f (PySem.W.fnOf x qual (ir st) (fX st) (ak st) .none kV doc pm an bG ct):=⟨⟨oc,od,kV,doc,pm,an,bG,ct,DN,rfl,l,c⟩,k⟩
end
theorem Y1(hr:dR k A):A.units+1<cLine:=gX (Nat.add_le_add_left (by decide:1<=64) _) hr.units
theorem Dz(h:n<=1000):n<sizeLine:=gX h (by decide)
section
variable {X:Cx}
theorem pv(i:Nat)(hN:X.N[i]? =some x:=by rfl)(hv:XH X.env.scope x:=by first|exact Or.inl rfl|exact Or.inr (Or.inl rfl)|exact Or.inr (Or.inr rfl))(hd:(x==("__debug__":Str))=false:=by decide)
  (yN:(x==("__classdict__":Str))=false:=by decide):PE X (.Name x pos) (dJ i):=VP hN hv hd yN
end
theorem eM{c A B:Prop}[Decidable c](h1:c->A)(h2:¬c->B):if c then A else B:=by
 by_cases h:c
 ·rw[ai h];exact h1 h
 ·rw[ah h];exact h2 h
def a9(H H':Hp):Prop:=∀b o,H b=some o->H' b=some o
theorem a9.refl(H:Hp):a9 H H:=λ_ _ h=>h
theorem a9.trans(a:a9 H H1)(b:a9 H1 H2):a9 H H2:=λc o h=>b c o (a c o h)
theorem a9.free(e:a9 H H')(h:H' l=Option.none):H l=Option.none:=by
 cases q:H l with
 |none=>rfl
 |some o=>
  rw[e l o q]at h;cases h
section
variable {κ:Type} [DecidableEq κ]
end
theorem UR{α:Type}{l:List α}(hN:l.Nodup){i j:Nat}{x:α}(a:l[i]? =some x)(b:l[j]? =some x):i=j:=by
 obtain⟨h1,e1⟩:=List.getElem?_eq_some_iff.mp a;obtain⟨h2,e2⟩:=List.getElem?_eq_some_iff.mp b;exact(List.getElem_inj hN).mp (e1.trans e2.symm)
theorem a9.made{H H1:Hp}(nx:H x=Option.none)(nd:H dx=Option.none)(k:∀b o,(upd (upd H dx (.own x)) x (.ins C dx [])) b=some o->b≠x->H1 b=some o):a9 H H1:=λb o e=>
 k b o (by rw[ao (au e nx),ao (au e nd)];exact e) (au e nx)
end L2
section
set_option maxHeartbeats 2000000
namespace L2
open PySem PySem.Spec PyProof.Rows
open PySem.W (WData Codec OpenSpec Well WellAll ReadsW ReadsAllW)
mutual
inductive Dw(K:PySem.W.Frag)(H:Hp):V->WData->Prop
 |dt:Dw K H .dt .none
 |bl (b:Bool):Dw K H (.bl b) (.bool b)
 |int (i:Int):Dw K H (.int i) (.int i)
 |str (x:Str):Dw K H (.str x) (.str x)
 |GC (b:Array UInt8):Dw K H (.GC b) (.bytes b.toList)
 |lst {a:Addr} {xs:List V} {ds:List WData}:bp K H a xs->mj K H xs ds->Dw K H (.ref a) (.list ds)
 |tup {a:Addr} {xs:List V} {ds:List WData}:rB K H a xs->mj K H xs ds->Dw K H (.ref a) (.tuple ds)
inductive mj(K:PySem.W.Frag)(H:Hp):List V->List WData->Prop
 |nil:mj K H [] []
 |cons {v:V} {vs:List V} {d:WData} {ds:List WData}:Dw K H v d->mj K H vs ds->mj K H (v::vs) (d::ds)
end
theorem MC{K:PySem.W.Frag}{H:Hp}:∀ns:List Int,mj K H (ns.map V.int) (ns.map WData.int)
 |[]=>.nil
 |n::r=>.cons (.int n) (MC r)
theorem Mo{K:PySem.W.Frag}{H:Hp}:∀(ns:List Int) (xs:List V),mj K H xs (ns.map WData.int)->xs=ns.map V.int
 |[],xs,h=>by
  cases h;rfl
 |n::r,xs,h=>by
  cases h with
  |cons h1 h2=>
   cases h1;rw[Mo r _ h2]<;>rfl
section
variable {P:Program} {w:World} {K:PySem.W.Frag} {H:Hp} {h:Heap} {R:PySem.W.WRecords} {cl:Str->Option Addr}
theorem Vy(cM:mm P w H h)(KX:K.In h)(q:bp K H a xs):∃(its:List Value) (o:Obj) (n:Nat),Vals xs its/\h.get? a=some o/\o.cls= .type "list"/\o.data= .seq its.toArray n:=by
 rcases q with q|⟨o,its,n,e,hc,_,hd,_,hv⟩
 ·obtain⟨_,its,n,hv,e⟩:=(show dO P w H h a (.lst xs)from q.ok cM);exact⟨its,_,n,hv,e,rfl,rfl⟩
 ·exact⟨its.toList,o,n,hv,KX _ _ e,hc,by simp[hd]⟩
theorem Vx(cM:mm P w H h)(KX:K.In h)(q:rB K H a xs):∃(its:List Value) (o:Obj) (n:Nat),Vals xs its/\h.get? a=some o/\o.cls= .type "tuple"/\o.data= .seq its.toArray n:=by
 rcases q with q|⟨o,its,n,e,hc,hd,_,hv⟩
 ·obtain⟨_,its,hv,o,e,hc,n,hd⟩:=(show dO P w H h a (.tup xs)from q.ok cM);exact⟨its,o,n,hv,e,hc,hd⟩
 ·exact⟨its.toList,o,n,hv,KX _ _ e,hc,by simp[hd]⟩
mutual
theorem Dw.reads(cM:mm P w H h)(KX:K.In h):∀(d:WData) (v:V) (u:Value),Dw K H v d->RelV v u->∃as,ReadsW R cl h u d as
 | .none,_,_,x,r=>by
  cases x;cases r;exact⟨_,ReadsW.none⟩
 | .bool b,_,_,x,r=>by
  cases x;cases r;exact⟨_,ReadsW.bool b⟩
 | .int i,_,_,x,r=>by
  cases x;obtain⟨t,rfl⟩:=r;exact⟨_,ReadsW.int i t⟩
 | .str s,_,_,x,r=>by
  cases x;obtain⟨t,rfl⟩:=r;exact⟨_,ReadsW.str s t⟩
 | .bytes b,_,_,x,r=>by
  cases x;obtain⟨t,rfl⟩:=r;exact⟨_,ReadsW.bytes _ t⟩
 | .list ds,_,_,x,r=>by
  cases x with
  |lst hs ha=>
   cases r;obtain⟨its,o,n,rv,ho,hc,hd⟩:=Vy cM KX hs;obtain⟨as,hr⟩:=Dw.readsAll cM KX ds _ its ha rv;exact⟨_,ReadsW.list ho hc hd hr⟩
 | .tuple ds,_,_,x,r=>by
  cases x with
  |tup hs ha=>
   cases r;obtain⟨its,o,n,rv,ho,hc,hd⟩:=Vx cM KX hs;obtain⟨as,hr⟩:=Dw.readsAll cM KX ds _ its ha rv;exact⟨_,ReadsW.tuple ho hc hd hr⟩
 | .float _,_,_,x,_=>by cases x
 | .dict _,_,_,x,_=>by cases x
 | .bytearray _,_,_,x,_=>by cases x
 | .set _,_,_,x,_=>by cases x
 | .frozenset _,_,_,x,_=>by cases x
 | .obj _ _,_,_,x,_=>by cases x
theorem Dw.readsAll(cM:mm P w H h)(KX:K.In h):∀(ds:List WData) (vs:List V) (us:List Value),mj K H vs ds->Vals vs us->∃as,ReadsAllW R cl h us ds as
 |[],_,_,x,r=>by
  cases x;cases r;exact⟨_,ReadsAllW.nil⟩
 |d::ds,_,_,x,r=>by
  cases x with
  |cons h1 h2=>
   cases r with
   |cons r1 r2=>
    obtain⟨as,q1⟩:=Dw.reads cM KX d _ _ h1 r1;obtain⟨bs,q2⟩:=Dw.readsAll cM KX ds _ _ h2 r2;exact⟨_,ReadsAllW.cons q1 q2⟩
end
end
mutual
def L8:WData->Bool
 | .none=>true
 | .bool _=>true
 | .int _=>true
 | .str _=>true
 | .bytes _=>true
 | .list xs=>x8 xs
 | .tuple xs=>x8 xs
 |_=>false
def x8:List WData->Bool
 |[]=>true
 |x::r=>L8 x&&x8 r
end
theorem HI{α:Type}{f:α->WData}(h:∀a,L8 (f a)=true):∀l:List α,x8 (l.map f)=true
 |[]=>rfl
 |x::r=>by
  show(L8 (f x)&&x8 (r.map f))=true;rw[h x,HI h r]<;>rfl
theorem pE:∀(c:Codec) (a:c.denote),L8 (c.enc a)=true
 | .unit,_=>rfl
 | .bool,_=>rfl
 | .int _ _,_=>rfl
 | .nat _ _,_=>rfl
 | .u8,_=>rfl
 | .bytes _ _,_=>rfl
 | .text _ _ _ _,_=>rfl
 | .list _ _ c,a=>HI (λx=>pE c x) a
 | .pair c d,a=>by
  show(L8 (c.enc a.1)&&(L8 (d.enc a.2)&&true))=true;rw[pE c a.1,pE d a.2]<;>rfl
 | .triple c d e,a=>by
  show(L8 (c.enc a.1)&&(L8 (d.enc a.2.1)&&(L8 (e.enc a.2.2)&&true)))=true;rw[pE c a.1,pE d a.2.1,pE e a.2.2]<;>rfl
 | .option c,none=>rfl
 | .option c,some x=>pE c x
theorem DG:∀(cs:List Codec) (a:Codec.denoteAll cs),x8 (Codec.encAll cs a)=true
 |[],_=>rfl
 |c::cs,a=>by
  show(L8 (c.enc a.1)&&x8 (Codec.encAll cs a.2))=true;rw[pE c a.1,DG cs a.2]<;>rfl
theorem rD:∀{xs:List WData} {d:WData},d∈xs->d.weight<=WData.weightAll xs
 |[],d,h=>absurd h (by simp)
 |x::r,d,h=>by
  show d.weight<=x.weight+1+WData.weightAll r;rcases List.mem_cons.mp h with e|m
  ·rw[e];omega
  ·have z:=rD m;omega
def toV:Value->V
 | .none=>.dt
 | .bool b=>.bl b
 | .int i _=>.int i
 | .str x _=>.str x
 | .bytes b _=>.GC b
 | .ref a=>.ref a
 |_=>.dt
def O9(A:List Addr):Value->Prop
 | .none=>True
 | .bool _=>True
 | .int _ _=>True
 | .str _ _=>True
 | .bytes _ _=>True
 | .ref a=>a∈A
 |_=>False
theorem O9.mono(h:∀a∈A,a∈B):∀{u:Value},O9 A u->O9 B u:=λ{u} x=>by
 cases u with
 |ref a=>exact h a x
 |none=>trivial
 |bool b=>trivial
 |int i t=>trivial
 |str s t=>trivial
 |bytes b t=>trivial
 |_=>exact False.elim x
theorem Qm(x:O9 A u):RelV (toV u) u:=by
 cases u with
 |ref a=>rfl
 |none=>rfl
 |bool b=>rfl
 |int i t=>exact⟨t,rfl⟩
 |str s t=>exact⟨t,rfl⟩
 |bytes b t=>exact⟨t,rfl⟩
 |_=>exact False.elim x
theorem lP{A:List Addr}:∀{vs:List Value},(∀u∈vs,O9 A u)->Vals (vs.map toV) vs
 |[],_=>.nil
 |u::r,h=>.cons (Qm (h u (bB ..))) (lP λx hx=>h x (aS _ hx))
def oB(h:Heap)(A:List Addr)(a:Addr):Prop:=∃vs:List Value,vs.length<=sizeLine/\(∀u∈vs,O9 A u)/\
 (h.get? a=some {cls:=.type "list",data:=.seq vs.toArray}\/h.get? a=some {cls:=.type "tuple",data:=.seq vs.toArray})
theorem oB.mono(k:∀a∈A,a∈B)(x:oB h A a):oB h B a:=by
 obtain⟨vs,h1,h2,h3⟩:=x;exact⟨vs,h1,λu hu=>(h2 u hu).mono k,h3⟩
theorem kx{P:Params}{h:Heap}:∀{vs:List Value} {ds:List WData},WellAll P h vs ds->vs.length=ds.length
 |_,_,.nil=>rfl
 |_,_,.cons _ b=>by
  show _+1=_+1;rw[kx b]
theorem Dk(x:Well P h v (.list ds)):∃(a:Addr) (vs:List Value),v= .ref a/\h.get? a=some {cls:=.type "list",data:=.seq vs.toArray}/\WellAll P h vs ds:=by
 cases x with
 |list ho qV=>exact⟨_,_,rfl,ho,qV⟩
theorem yU(x:Well P h v (.tuple ds)):∃(a:Addr) (vs:List Value),v= .ref a/\h.get? a=some {cls:=.type "tuple",data:=.seq vs.toArray}/\WellAll P h vs ds:=by
 cases x with
 |tuple ho qV=>exact⟨_,_,rfl,ho,qV⟩
theorem Dl(x:WellAll P h us (d::ds)):∃(v:Value) (vs:List Value),us=v::vs/\Well P h v d/\WellAll P h vs ds:=by
 cases x with
 |cons a b=>exact⟨_,_,rfl,a,b⟩
theorem Mi(h:n<=1048576):n<=sizeLine:=a8 h (by decide)
section
variable {P:Params} {h:Heap}
mutual
theorem Se:∀(d:WData) (v:Value),Well P h v d->L8 d=true->d.weight<=1048576->∃A:List Addr,O9 A v/\∀a∈A,oB h A a
 | .none,_,x,_,_=>by
  cases x;exact⟨[],trivial,λa m=>absurd m (by simp)⟩
 | .bool b,_,x,_,_=>by
  cases x;exact⟨[],trivial,λa m=>absurd m (by simp)⟩
 | .int i,_,x,_,_=>by
  cases x;exact⟨[],trivial,λa m=>absurd m (by simp)⟩
 | .str s,_,x,_,_=>by
  cases x;exact⟨[],trivial,λa m=>absurd m (by simp)⟩
 | .bytes b,_,x,_,_=>by
  cases x;exact⟨[],trivial,λa m=>absurd m (by simp)⟩
 | .list ds,_,x,p,z=>by
  obtain⟨a,vs,rfl,ho,qV⟩:=Dk x;have z2:WData.weightAll ds<=1048576:=z;obtain⟨A,h1,h2⟩:=vj ds _ qV p λd hd=>a8 (rD hd) z2
  have k:∀b∈A,b∈a::A:=λb hb=>aS _ hb
  refine⟨a::A,bB ..,λb hb=>?_⟩;rcases List.mem_cons.mp hb with e|m
  ·rw[e];exact⟨vs,Mi (by rw[kx qV];exact a8 (PySem.W.length_le_weightAllW ds) z2),λu hu=>(h1 u hu).mono k,.inl ho⟩
  ·exact(h2 b m).mono k
 | .tuple ds,_,x,p,z=>by
  obtain⟨a,vs,rfl,ho,qV⟩:=yU x;have z2:WData.weightAll ds<=1048576:=z;obtain⟨A,h1,h2⟩:=vj ds _ qV p λd hd=>a8 (rD hd) z2
  have k:∀b∈A,b∈a::A:=λb hb=>aS _ hb
  refine⟨a::A,bB ..,λb hb=>?_⟩;rcases List.mem_cons.mp hb with e|m
  ·rw[e];exact⟨vs,Mi (by rw[kx qV];exact a8 (PySem.W.length_le_weightAllW ds) z2),λu hu=>(h1 u hu).mono k,.inr ho⟩
  ·exact(h2 b m).mono k
 | .float _,_,_,p,_=>Bool.noConfusion (show false=true from p)
 | .dict _,_,_,p,_=>Bool.noConfusion (show false=true from p)
 | .bytearray _,_,_,p,_=>Bool.noConfusion (show false=true from p)
 | .set _,_,_,p,_=>Bool.noConfusion (show false=true from p)
 | .frozenset _,_,_,p,_=>Bool.noConfusion (show false=true from p)
 | .obj _ _,_,_,p,_=>Bool.noConfusion (show false=true from p)
theorem vj:∀(ds:List WData) (vs:List Value),WellAll P h vs ds->x8 ds=true->(∀d∈ds,d.weight<=1048576)->∃A:List Addr,(∀u∈vs,O9 A u)/\∀a∈A,oB h A a
 |[],_,x,_,_=>by
  cases x;exact⟨[],λu m=>absurd m (by simp),λa m=>absurd m (by simp)⟩
 |d::ds,_,x,p,z=>by
  obtain⟨v,vs,rfl,x1,x2⟩:=Dl x;have q:L8 d=true/\x8 ds=true:=Bool.and_eq_true_iff.mp p;obtain⟨A,a1,a2⟩:=Se d v x1 q.1 (z d (bB ..));obtain⟨B,b1,b2⟩:=vj ds vs x2 q.2 λe he=>z e (aS _ he)
  have kA:∀b∈A,b∈A++B:=λb hb=>List.mem_append.mpr (.inl hb)
  have kB:∀b∈B,b∈A++B:=λb hb=>List.mem_append.mpr (.inr hb)
  refine⟨A++B,λu hu=>?_,λb hb=>?_⟩
  ·rcases List.mem_cons.mp hu with e|m
   ·rw[e];exact a1.mono kA
   ·exact(b1 u m).mono kB
  ·rcases List.mem_append.mp hb with m|m
   ·exact(a2 b m).mono kA
   ·exact(b2 b m).mono kB
end
end
def T9(o:Obj):Option HO:=match o.data with
 | .seq vs _=>if(o.cls==Value.type "list")=true then some (.Ed o (.lst (vs.toList.map toV)))else some (.Ed o (.tup (vs.toList.map toV)))
 |_=>none
def nY(K:PySem.W.Frag)(h:Heap)(A:List Addr):Hp:=λb=>if b∈A then(if(K.lookup b).isNone=true then(h.get? b).bind T9 else none)else none
def Js(H:Hp):Prop:=∀b,H b=none\/∃o u,H b=some (.Ed o u)
theorem IC(vs:List Value):T9 {cls:=.type "list",data:=.seq vs.toArray}=some (.Ed {cls:=.type "list",data:=.seq vs.toArray} (.lst (vs.map toV))):=by
 show(if(Value.type "list"==Value.type "list")=true then some (HO.Ed {cls:=.type "list",data:=.seq vs.toArray} (.lst (vs.toArray.toList.map toV)))else some (HO.Ed {cls:=.type "list",data:=.seq vs.toArray} (.tup (vs.toArray.toList.map toV))))=_;rw[ai (beq_self_eq_true _)]
theorem IB(vs:List Value):T9 {cls:=.type "tuple",data:=.seq vs.toArray}=some (.Ed {cls:=.type "tuple",data:=.seq vs.toArray} (.tup (vs.map toV))):=by
 show(if(Value.type "tuple"==Value.type "list")=true then some (HO.Ed {cls:=.type "tuple",data:=.seq vs.toArray} (.lst (vs.toArray.toList.map toV)))else some (HO.Ed {cls:=.type "tuple",data:=.seq vs.toArray} (.tup (vs.toArray.toList.map toV))))=_;rw[ah (by decide)]
section
variable {P:Program} {w:World} {K:PySem.W.Frag} {h:Heap} {A:List Addr}
theorem yS(hb:b∈A)(hk:K.lookup b=none)(e:h.get? b=some o):nY K h A b=T9 o:=by
 unfold nY;rw[ai hb,hk,ai (show(none:Option Obj).isNone=true from rfl),e]<;>rfl
theorem TJ(q:nY K h A b=some u):b∈A/\K.lookup b=none:=by
 unfold nY at q;by_cases hb:b∈A
 ·rw[ai hb]at q;cases hk:K.lookup b with
  |none=>exact⟨hb,rfl⟩
  |some o=>
   rw[hk,ah (by simp)]at q;cases q
 ·rw[ah hb]at q;cases q
theorem yR(ar:∀a∈A,oB h A a)(q:nY K h A b=some u):K.lookup b=none/\∃vs:List Value,vs.length<=sizeLine/\(∀u∈vs,O9 A u)/\
  ((h.get? b=some {cls:=.type "list",data:=.seq vs.toArray}/\u= .Ed {cls:=.type "list",data:=.seq vs.toArray} (.lst (vs.map toV)))\/
   (h.get? b=some {cls:=.type "tuple",data:=.seq vs.toArray}/\u= .Ed {cls:=.type "tuple",data:=.seq vs.toArray} (.tup (vs.map toV)))):=by
 obtain⟨hb,hk⟩:=TJ q;obtain⟨vs,h1,h2,h3⟩:=ar b hb;refine⟨hk,vs,h1,h2,?_⟩;rcases h3 with e|e
 ·rw[yS hb hk e,IC]at q;exact .inl ⟨e,(aO q).symm⟩
 ·rw[yS hb hk e,IB]at q;exact .inr ⟨e,(aO q).symm⟩
theorem O7(ar:∀a∈A,oB h A a):Js (nY K h A):=λb=>by
 cases q:nY K h A b with
 |none=>exact .inl rfl
 |some u=>
  obtain⟨_,vs,_,_,⟨_,e⟩|⟨_,e⟩⟩:=yR ar q
  ·exact .inr ⟨_,_,by rw[e]⟩
  ·exact .inr ⟨_,_,by rw[e]⟩
theorem Uz(ar:∀a∈A,oB h A a):mm P w (nY K h A) h:=λb u q=>by
 obtain⟨_,vs,h1,h2,⟨e,rfl⟩|⟨e,rfl⟩⟩:=yR ar q
 ·exact⟨e,by rw[aH];exact h1,vs,_,lP h2,e⟩
 ·exact⟨e,by rw[aH];exact h1,vs,lP h2,_,e,rfl,_,rfl⟩
theorem yJ{vs us:List Value}(e:(some {cls:=c,data:=.seq vs.toArray}:Option Obj)=some {cls:=c',data:=.seq us.toArray}):c=c'/\vs=us:=by
 have e1:=aO e;have e2:c=c':=congrArg Obj.cls e1;have e3:Data.seq vs.toArray=Data.seq us.toArray:=congrArg Obj.data e1;injection e3 with e4
 refine⟨e2,?_⟩;have e5:=congrArg Array.toList e4;simpa using e5
theorem ack(KX:K.In h)(ar:∀a∈A,oB h A a){vs:List Value}(ha:a∈A)(e:h.get? a=some {cls:=.type "list",data:=.seq vs.toArray}):(∀u∈vs,O9 A u)/\bp K (nY K h A) a (vs.map toV):=by
 obtain⟨us,h1,h2,h3⟩:=ar a ha;have hu:us=vs:=by
  rcases h3 with q|q
  ·rw[e]at q;exact(yJ q).2.symm
  ·rw[e]at q;exact absurd (Value.type.inj (yJ q).1) (by decide)
 subst hu;refine⟨h2,?_⟩;cases hk:K.lookup a with
 |none=>exact .inl (.inr ⟨_,by rw[yS ha hk e,IC]⟩)
 |some o=>
  have e2:=KX a o hk;rw[e]at e2;obtain rfl:=aO e2;exact .inr ⟨_,us.toArray,_,hk,rfl,rfl,rfl,by rw[bL];exact h1,by simpa using lP h2⟩
theorem acj(KX:K.In h)(ar:∀a∈A,oB h A a){vs:List Value}(ha:a∈A)(e:h.get? a=some {cls:=.type "tuple",data:=.seq vs.toArray}):(∀u∈vs,O9 A u)/\rB K (nY K h A) a (vs.map toV):=by
 obtain⟨us,h1,h2,h3⟩:=ar a ha;have hu:us=vs:=by
  rcases h3 with q|q
  ·rw[e]at q;exact absurd (Value.type.inj (yJ q).1) (by decide)
  ·rw[e]at q;exact(yJ q).2.symm
 subst hu;refine⟨h2,?_⟩;cases hk:K.lookup a with
 |none=>exact .inl (.inr ⟨_,by rw[yS ha hk e,IB]⟩)
 |some o=>
  have e2:=KX a o hk;rw[e]at e2;obtain rfl:=aO e2;exact .inr ⟨_,us.toArray,_,hk,rfl,rfl,by rw[bL];exact h1,by simpa using lP h2⟩
mutual
theorem WW(KX:K.In h)(ar:∀a∈A,oB h A a):∀(d:WData) (v:Value),Well Pm h v d->L8 d=true->O9 A v->Dw K (nY K h A) (toV v) d
 | .none,_,x,_,_=>by
  cases x;exact .dt
 | .bool b,_,x,_,_=>by
  cases x;exact .bl b
 | .int i,_,x,_,_=>by
  cases x;exact .int i
 | .str s,_,x,_,_=>by
  cases x;exact .str s
 | .bytes b,_,x,_,_=>by
  cases x;have z:=Dw.GC (K:=K) (H:=nY K h A) b.toArray;exact z
 | .list ds,_,x,p,hu=>by
  obtain⟨a,vs,rfl,ho,qV⟩:=Dk x;obtain⟨h2,hs⟩:=ack KX ar hu ho;exact .lst hs (F7 KX ar ds _ qV p h2)
 | .tuple ds,_,x,p,hu=>by
  obtain⟨a,vs,rfl,ho,qV⟩:=yU x;obtain⟨h2,hs⟩:=acj KX ar hu ho;exact .tup hs (F7 KX ar ds _ qV p h2)
 | .float _,_,_,p,_=>Bool.noConfusion (show false=true from p)
 | .dict _,_,_,p,_=>Bool.noConfusion (show false=true from p)
 | .bytearray _,_,_,p,_=>Bool.noConfusion (show false=true from p)
 | .set _,_,_,p,_=>Bool.noConfusion (show false=true from p)
 | .frozenset _,_,_,p,_=>Bool.noConfusion (show false=true from p)
 | .obj _ _,_,_,p,_=>Bool.noConfusion (show false=true from p)
theorem F7(KX:K.In h)(ar:∀a∈A,oB h A a):∀(ds:List WData) (vs:List Value),WellAll Pm h vs ds->x8 ds=true->(∀u∈vs,O9 A u)->mj K (nY K h A) (vs.map toV) ds
 |[],_,x,_,_=>by
  cases x;exact .nil
 |d::ds,_,x,p,hu=>by
  obtain⟨v,vs,rfl,x1,x2⟩:=Dl x;have q:L8 d=true/\x8 ds=true:=Bool.and_eq_true_iff.mp p;exact .cons (WW KX ar d v x1 q.1 (hu _ (bB ..))) (F7 KX ar ds vs x2 q.2 λu m=>hu u (aS _ m))
end
end
theorem M_{w:World}{K:PySem.W.Frag}{s₁:Shared}
  (KX:K.In s₁.heap) (JE:s₁.heap.Ns mainGlobals mg) (hb:s₁.heap.Ns builtinsNs mb) (hbb:∀x:Str,x≠"__name__"->mb x=bootBuiltins x) (Wx:s₁.heap.NoLimit) (hg:s₁.gens= #[])
  (Y0:WellAll w.params s₁.heap vals ds) (uT:x8 ds=true) (hwt:∀d∈ds,d.weight<=1048576) (hr:dR k callerA)
  (F:∀base:Heap,K.In base->base.Ns mainGlobals mg->aP P w K mg base CX k fa fd ps sp) (RB:∀(s:Shared) (us:List Value),us.length=ps.length->BindsTo s fd ⟨us,[]⟩ (ps.zip us)) (hlen:ds.length=ps.length)
  (Px:∀(H:Hp) (xs:List V),Js H->mj K H xs ds->sp xs H (λv H'=>Dw K H' v d0) λ_ _ _=>False)
  (Zy:∀H e s',CX [] H s₁ (λ_ _ _=>False) e s'->False):
  codeAny (model P w) callerA (.call (.ref fa) ⟨vals,[]⟩) (λr s'=>∃u as,r= .ok (.ret u)/\ReadsW R cl s'.heap u d0 as/\OldK s₁.heap s'.heap/\s'.os=s₁.os/\AllBare s'.gens) s₁:=by
 obtain⟨A,ho,ar⟩:=vj ds vals Y0 uT hwt;have hO:Js (nY K s₁.heap A):=O7 ar;have cM:mm P w (nY K s₁.heap A) s₁.heap:=Uz ar;have hS:=F7 KX ar ds vals Y0 uT ho;have hV:=lP ho;have hK:∀b u,nY K s₁.heap A b=some u->K.lookup b=none:=λb u q=>(yR ar q).1
 have Xk:∀{b:Addr} {o:Obj} {es:Array DictEntry} {ep:Nat},s₁.heap.get? b=some o->o.data= .dict es ep->nY K s₁.heap A b=none:=λ{b o es ep} e d=>by
  cases q:nY K s₁.heap A b with
  |none=>rfl
  |some u=>
   obtain⟨_,vs,_,_,⟨e2,_⟩|⟨e2,_⟩⟩:=yR ar q
   ·rw[e2]at e;cases e;have d':Data.seq vs.toArray _=Data.dict es ep:=d;cases d'
   ·rw[e2]at e;cases e;have d':Data.seq vs.toArray _=Data.dict es ep:=d;cases d'
 generalize nY K s₁.heap A=H at hO cM hS hK Xk;have MM:∀{b:Addr} {o:Obj},s₁.heap.get? b=some o->H b=none->(FZ s₁.heap H).get? b=some o:=λe n=>Rw e n
 have nsK:∀{b:Addr} {m:Str->Option Value},s₁.heap.Ns b m->(FZ s₁.heap H).Ns b m:=λ{b m} ⟨o,es,ep,e,d,r⟩=>⟨o,es,ep,MM e (Xk e d),d,r⟩
 have nK:∀b o,K.lookup b=some o->H b=none:=λb o e=>by
  cases q:H b with
  |none=>rfl
  |some u=>
   rw[hK b u q]at e;cases e
 have hKb:K.In (FZ s₁.heap H):=λb o e=>MM (KX b o e) (nK b o e)
 have hM:Mod K mg (FZ s₁.heap H):=⟨hKb,nsK JE,⟨mb,nsK hb,hbb⟩,let ⟨mc,h1,h2⟩:=Wx;⟨mc,nsK h1,h2⟩⟩;have e0:LC P w K mg (FZ s₁.heap H) callerA [] s₁ H:=⟨rfl,hM,λb o e=>TH e,yz (Oc _ _),trivial,λb hb=>absurd (show b∈([]:List Addr)from hb) (by simp),cM,.of_eq hg⟩;have hl:vals.length=ps.length:=by rw[kx Y0];exact hlen
 refine codeAny_mono ((F _ hKb (nsK JE)).run callerA [] s₁ H ⟨vals,[]⟩ vals (vals.map toV) _ _ hr e0 (RB s₁ vals hl) hV (Px H _ hO hS)) λr s' x=>?_
 cases r with
 |error e=>exact(Zy H e s' x).elim
 |ok fl=>
  cases fl with
  |next=>exact False.elim x
  |brk=>exact False.elim x
  |cont=>exact False.elim x
  |ret u=>
   obtain⟨v,H',os,bare,un,Za,r',q⟩:=x;have kept:∀b o,s₁.heap.get? b=some o->s'.heap.get? b=some o:=λb o e=>by
    cases q2:H b with
    |none=>exact un.keep b o e q2 (by intro z;exact absurd (show b∈([]:List Addr)from z) (by simp)) (by simp)
    |some u2=>
     rcases hO b with z|⟨ob,u3,z⟩
     ·rw[q2]at z;cases z
     ·have z2:=un.wF b ob _ z;obtain⟨e1,_⟩:=cM b _ z;obtain⟨e2,_⟩:=Za b _ z2;rw[e]at e1;cases e1;exact e2
   have KX':K.In s'.heap:=λb o e=>kept b o (KX b o e)
   obtain⟨as,hrd⟩:=Dw.reads (R:=R) (cl:=cl) Za KX' d0 v u q r';exact⟨u,as,rfl,hrd,OldK.of_keep kept,os,bare⟩
theorem AL(h:WData.layableAll ds=true):∀d∈ds,d.weight<=1048576:=λd hd=>
 (PySem.W.layableW_iff.mp (List.all_eq_true.mp h d hd)).2.2
theorem A4:∀(cs:List Codec) (a:Codec.denoteAll cs),(Codec.encAll cs a).length=cs.length
 |[],_=>rfl
 |c::cs,a=>by
  show(Codec.encAll cs a.2).length+1=cs.length+1;rw[A4 cs a.2]
theorem MV{r:OpenSpec}{XP:(Str->Option Value)->Heap->Prop}{YP:World->Heap->Prop}{d:DefRec}{K:Params->PySem.W.Frag}{CX:World->JI}{ps:List Str}{sp:World->Sp}
  (Ro:r.wellSaid=true) (hdf:d.params.defaults=[]) (hlen:r.args.length=ps.length) (hr:dR k callerA)
  (hY:∀(w:World) (h:Heap),YP w h->(K w.params).In h)
  (F:∀(w:World) (mg:Str->Option Value) (fa:Addr) (h:Heap),YP w h->(K w.params).In h->h.Ns mainGlobals mg->mg d.name=some (.ref fa)->
   ∃fd:FuncData,(∀(s:Shared) (us:List Value),us.length=ps.length->BindsTo s fd ⟨us,[]⟩ (ps.zip us))/\
    ∀base:Heap,(K w.params).In base->base.Ns mainGlobals mg->aP r.prog w (K w.params) mg base (CX w) k fa fd ps (sp w))
  (Px:∀(w:World) (H:Hp) (xs:List V) (a:Codec.denoteAll r.args),Js H->Codec.withinAll r.args a=true->Codec.app r.args r.asked a=true->mj (K w.params) H xs (Codec.encAll r.args a)->
   sp w xs H (λv H'=>Dw (K w.params) H' v (r.ret.enc (Codec.app r.args r.f a))) λ_ _ _=>False)
  (Zy:∀(w:World) (H:Hp) (s:Shared) (e:Value) (s':Shared),CX w [] H s (λ_ _ _=>False) e s'->False):
  PySem.W.WalkOS q loose XP YP r d [] (λf vs=>PySem.call f vs):=by
 intro w BS s₁ mg mb G Y fa o pm cd doc dV kV ho hd yN hD Wv hg args vals as abO abT hrd Y0 hlo;obtain⟨a,e1,e2⟩:=PySem.W.os_pre_some abO;obtain⟨e3,hwi⟩:=Codec.encAll_of_decAll r.args args a e1;subst e3;have KX:=hY w _ Y;obtain⟨fd,hb,hF⟩:=F w mg fa _ Y KX G.T.g Wv;refine PySem.W.enter_call (codeAny_mono (M_ (R:=[]) (cl:=classAt BS.heap) (d0:=r.ret.enc (Codec.app r.args r.f a)) KX G.T.g G.T.b G.T.builtins G.T.nolimit hg Y0 (DG _ _) (AL abT) hr hF hb (by rw[A4];exact hlen)
  (λH xs hO hS=>Px w H xs a hO hwi e2 hS) λH e s'=>Zy w H s₁ e s') λr' s' hq=>?_)
 obtain⟨u,as',rfl,h1,h2,h3,h4⟩:=hq;exact⟨.inl ⟨u,_,as',rfl,λ_=>rfl,h1,(OpenSpec.post_iff Ro hwi _ _).mpr rfl,λz=>Bool.noConfusion (show false=true from z)⟩,h2,h3,h4⟩
theorem JK{r:OpenSpec}{XP:(Str->Option Value)->Heap->Prop}{YP:World->Heap->Prop}{d:DefRec}{K:Params->PySem.W.Frag}{ps:List Str}{sp:PySem.W.Frag->Sp}
  (Ro:r.wellSaid=true) (hdf:d.params.defaults=[]) (hlen:r.args.length=ps.length) (hr:dR k callerA)
  (hY:∀(w:World) (h:Heap),YP w h->(K w.params).In h)
  (F:∀(w:World) (mg:Str->Option Value) (fa:Addr) (h:Heap),YP w h->(K w.params).In h->h.Ns mainGlobals mg->mg d.name=some (.ref fa)->
   ∃fd:FuncData,(∀(s:Shared) (us:List Value),us.length=ps.length->BindsTo s fd ⟨us,[]⟩ (ps.zip us))/\
    ∀base:Heap,(K w.params).In base->base.Ns mainGlobals mg->aP r.prog w (K w.params) mg base CX k fa fd ps (sp (K w.params)))
  (Px:∀(K:PySem.W.Frag) (H:Hp) (xs:List V) (a:Codec.denoteAll r.args),Js H->Codec.withinAll r.args a=true->Codec.app r.args r.asked a=true->mj K H xs (Codec.encAll r.args a)->
   sp K xs H (λv H'=>Dw K H' v (r.ret.enc (Codec.app r.args r.f a))) λ_ _ _=>False)
  (Zy:∀(H:Hp) (s:Shared) (e:Value) (s':Shared),CX [] H s (λ_ _ _=>False) e s'->False):
  PySem.W.WalkOS q loose XP YP r d [] (λf vs=>PySem.call f vs):=
 MV (K:=K) (CX:=λ_=>CX) (sp:=λw=>sp (K w.params)) Ro hdf hlen hr hY F (λw H xs a h1 h2 h3 h4=>Px (K w.params) H xs a h1 h2 h3 h4) λ_ H s e s'=>Zy H s e s'
end L2
end
namespace Fk
open PySem PySem.Spec PyProof.Rows L2
open PySem.W (Codec Frag nsIn keepIn mg_of fnOf findIn)
open Sf84 (Bytes Toks nums trimmed reckoned weight stepped)
variable {P:Program} {w:World} {K:PySem.W.Frag} {mg:Str->Option Value} {base:Heap} {fd:FuncData} {f:Addr} {C:Addr} {H:Hp} {H':Hp} {a:Addr} {x:Str} {s:Shared} {Q:VK} {CF:Addr} {xs:List V} {r:Sf84.Toks} {n:Nat} {k:Nat} {i:Nat} {h:Heap} {E:XK} {as:List Addr} {rs:List Addr} {bD:List (Key×V)} {st:Stmt} {ps:List Str} {sp:Sp} {CX:JI} {c:Sf84.Code} {A:Around} {v:V} {dx:Addr} {CR:Addr} {CT:Addr} {l:Addr} {p:Nat} {o:Nat} {e:Nat} {d:Nat}
def top(i:Nat):Stmt:=PySem.Challenge.pw_framekeep_s01_answers.main.body.getD i (.Pass ⟨0,0,0,0⟩)
abbrev k7:Stmt:=top 16
abbrev lj:Stmt:=top 17
abbrev qC:Stmt:=top 18
abbrev jU:Stmt:=top 19
abbrev hJ:Stmt:=top 22
abbrev hU:Stmt:=top 23
abbrev gw:Stmt:=top 24
abbrev vM:Stmt:=top 34
abbrev vH:Stmt:=top 35
abbrev iG:Stmt:=top 36
abbrev E8:Stmt:=top 37
abbrev ni:Stmt:=inClass (top 42) 0
abbrev jX:Stmt:=inClass (top 42) 1
abbrev hZ:Stmt:=inClass (top 42) 2
abbrev vI:Stmt:=top 43
abbrev zN:Stmt:=top 44
abbrev pq:Stmt:=top 45
abbrev iI:Stmt:=top 54
abbrev iH:Stmt:=top 55
abbrev rY:Stmt:=top 56
abbrev rQ:Stmt:=top 60
abbrev ji:Stmt:=top 61
abbrev lh:Stmt:=top 62
abbrev mI:Stmt:=top 63
abbrev px:Stmt:=top 64
abbrev mz:Stmt:=top 65
abbrev jR:Stmt:=top 66
abbrev rX:Stmt:=top 67
abbrev mQ:Stmt:=top 68
abbrev vL:Stmt:=top 69
abbrev mU:Stmt:=top 70
abbrev vK:Stmt:=top 71
abbrev lg:Stmt:=top 72
abbrev vG:Stmt:=top 73
abbrev rW:Stmt:=top 76
abbrev rZ:Stmt:=top 77
abbrev bK:Stmt:=inClass (top 88) 0
abbrev m_:Stmt:=inClass (top 89) 0
abbrev ph:Stmt:=top 90
abbrev vO:Stmt:=top 91
abbrev rT:Stmt:=top 92
abbrev mR:Stmt:=top 93
abbrev rR:Stmt:=top 94
abbrev iF:Stmt:=top 95
abbrev e7:Stmt:=top 96
abbrev gu:Stmt:=top 97
abbrev nh:Stmt:=inClass (top 99) 0
abbrev k_:Stmt:=top 100
abbrev jS:Stmt:=top 101
abbrev ll:Stmt:=top 102
abbrev pz:Stmt:=top 103
abbrev hG:Stmt:=top 104
abbrev gy:Stmt:=top 105
abbrev pj:Stmt:=top 106
abbrev pA:Stmt:=top 107
abbrev rV:Stmt:=top 108
abbrev jT:Stmt:=top 109
abbrev lE:Stmt:=inClass (top 118) 0
abbrev jk:Stmt:=inClass (top 118) 1
abbrev lD:Stmt:=inClass (top 118) 2
abbrev gz:Stmt:=inClass (top 118) 3
abbrev eF:Stmt:=inClass (top 118) 4
abbrev eE:Stmt:=inClass (top 118) 5
abbrev g_:Stmt:=top 119
abbrev iR:Stmt:=top 120
abbrev jB:Stmt:=top 121
abbrev kJ:Stmt:=top 122
abbrev eV:Stmt:=top 123
abbrev jA:Stmt:=top 124
abbrev kK:Stmt:=top 125
abbrev kN:Stmt:=top 126
abbrev jC:Stmt:=top 127
abbrev kM:Stmt:=top 128
abbrev iS:Stmt:=top 129
abbrev rS:Stmt:=top 131
abbrev k8:Stmt:=top 132
abbrev mM:Stmt:=top 133
abbrev iJ:Stmt:=top 134
abbrev jZ:Stmt:=inClass (top 149) 0
abbrev gB:Stmt:=inClass (top 149) 1
abbrev jl:Stmt:=inClass (top 149) 2
abbrev gh:Stmt:=inClass (top 149) 3
abbrev jY:Stmt:=inClass (top 149) 4
abbrev gg:Stmt:=inClass (top 149) 5
abbrev eR:Stmt:=inClass (top 149) 6
abbrev gC:Stmt:=inClass (top 149) 7
abbrev fb:Stmt:=inClass (top 149) 8
abbrev eK:Stmt:=inClass (top 149) 9
abbrev fc:Stmt:=inClass (top 149) 10
abbrev eG:Stmt:=inClass (top 149) 11
abbrev eJ:Stmt:=inClass (top 149) 12
abbrev fg:Stmt:=inClass (top 149) 13
abbrev gA:Stmt:=inClass (top 149) 14
abbrev gb:Stmt:=inClass (top 149) 15
abbrev h_:Stmt:=inClass (top 149) 16
abbrev eS:Stmt:=inClass (top 149) 17
abbrev e_:Stmt:=inClass (top 149) 18
abbrev gf:Stmt:=inClass (top 149) 19
abbrev gc:Stmt:=inClass (top 149) 20
abbrev eI:Stmt:=inClass (top 149) 21
abbrev vJ:Stmt:=top 150
abbrev lq:Stmt:=top 152
abbrev m5:Stmt:=top 153
abbrev jj:Stmt:=top 154
abbrev mX:Stmt:=top 155
abbrev iM:Stmt:=top 156
abbrev iL:Stmt:=top 157
abbrev lx:Stmt:=top 158
abbrev jW:Stmt:=top 159
abbrev ly:Stmt:=top 160
abbrev lz:Stmt:=top 161
abbrev lA:Stmt:=top 162
abbrev jV:Stmt:=top 163
abbrev lB:Stmt:=top 164
abbrev lp:Stmt:=top 165
abbrev iK:Stmt:=top 166
abbrev lX:Stmt:=top 168
theorem cQ{N P:List Str}{sc:Scope}(a:sc.kind= .function:=by rfl)(b:sc.isCoroutine=false:=by rfl)(c:sc.isGenerator=false:=by rfl)(d:N.Nodup:=by decide +kernel)(e:N.take P.length=P:=by rfl)(f:∀x∈P,sc.names.lookup x=some .local\/sc.names.lookup x=some .cell:=by decide +kernel)(g:∀y∈sc.names,y.2≠ .free:=by decide +kernel):ax N P sc:=⟨a,b,c,d,e,f,g⟩
theorem o6:ax ["program","known","place","instruction"] ["program"] (ak k7):=cQ
theorem o9:ax ["instruction","found","code"] ["instruction","found"] (ak lj):=cQ
theorem zw:ax ["place","instruction","found","code","ways"] ["place","instruction","found"] (ak qC):=cQ
theorem oq:ax ["ways","known","target","values"] ["ways","known"] (ak jU):=cQ
theorem jP:ax ["row","number","byte"] ["row"] (ak hJ):=cQ
theorem rO:ax ["number","size"] ["number","size"] (ak hU):=cQ
theorem jr:ax ["number","base","size","digits","rest","turn"] ["number","base","size"] (ak gw):=cQ
theorem zC:ax ["row","dump","place"] ["row"] (ak vM):=cQ
theorem zx:ax ["place","row","line","byte","lacking"] ["place","row"] (ak vH):=cQ
theorem Qh:ax ["byte"] ["byte"] (ak E8):=cQ
theorem BR:ax ["self","number","time","way","length","kept"] ["self","number","time","way","length","kept"] (ak ni):=cQ
theorem xZ:ax ["self"] ["self"] (ak jX):=cQ
theorem rP:ax ["self","snap"] ["self","snap"] (ak hZ):=cQ
theorem JX:ax ["time"] ["time"] (ak vI):=cQ
theorem Nh:ax ["way"] ["way"] (ak zN):=cQ
theorem E4:ax ["length"] ["length"] (ak pq):=cQ
theorem kH:ax ["frames","file","frame"] ["frames"] (ak iI):=cQ
theorem kF:ax ["file","frames","place","number","frame"] ["file"] (ak iH):=cQ
theorem xt:ax ["file","place","start","number","time","way","length","count"] ["file","place"] (ak rY):=cQ
theorem Hv:ax ["x","y"] ["x","y"] (ak rQ):=cQ
theorem vC:ax ["x","y"] ["x","y"] (ak ji):=cQ
theorem zB:ax ["x","y"] ["x","y"] (ak lh):=cQ
theorem BI:ax ["x","y"] ["x","y"] (ak mI):=cQ
theorem E5:ax ["x","y"] ["x","y"] (ak px):=cQ
theorem BH:ax ["x","y"] ["x","y"] (ak mz):=cQ
theorem xV:ax ["x","y"] ["x","y"] (ak jR):=cQ
theorem Hz:ax ["x","y"] ["x","y"] (ak rX):=cQ
theorem BK:ax ["x","y"] ["x","y"] (ak mQ):=cQ
theorem J0:ax ["x","y"] ["x","y"] (ak vL):=cQ
theorem BM:ax ["x","y"] ["x","y"] (ak mU):=cQ
theorem JZ:ax ["x","y"] ["x","y"] (ak vK):=cQ
theorem zA:ax ["x","y"] ["x","y"] (ak lg):=cQ
theorem JW:ax ["x"] ["x"] (ak vG):=cQ
theorem Hx:ax ["choice","x","y"] ["choice","x","y"] (ak rW):=cQ
theorem HB:ax ["choice","x","y"] ["choice","x","y"] (ak rZ):=cQ
theorem BP:ax ["self","sign","place","number"] ["self","sign","place","number"] (ak m_):=cQ
theorem ua:ax ["codes","text","tokens","place","piece"] ["codes"] (ak ph):=cQ
theorem xr:ax ["text","place","end"] ["text","place"] (ak rT):=cQ
theorem BL:ax ["sign"] ["sign"] (ak mR):=cQ
theorem xp:ax ["piece","place","number"] ["piece","place"] (ak rR):=cQ
theorem kE:ax ["word","number"] ["word"] (ak iF):=cQ
theorem iB:ax ["word","parts","number","part","byte"] ["word"] (ak e7):=cQ
theorem jq:ax ["digits","base","number","sign","digit"] ["digits","base"] (ak gu):=cQ
theorem BQ:ax ["self","outcome","instructions"] ["self","outcome","instructions"] (ak nh):=cQ
theorem zz:ax ["outcome"] ["outcome"] (ak k_):=cQ
theorem xW:ax [] [] (ak jS):=cQ
theorem zD:ax ["place","size"] ["place","size"] (ak ll):=cQ
theorem E6:ax ["first","second"] ["first","second"] (ak pz):=cQ
theorem rN:ax ["choice","first","second"] ["choice","first","second"] (ak hG):=cQ
theorem qJ:ax ["choice","first","second"] ["choice","first","second"] (ak gy):=cQ
theorem E3:ax ["test"] ["test"] (ak pj):=cQ
theorem E7:ax ["first","second"] ["first","second"] (ak pA):=cQ
theorem Hw:ax ["first","second"] ["first","second"] (ak rV):=cQ
theorem oo:ax ["code","first","second","between"] ["code","first","second"] (ak jT):=cQ
theorem zM:ax ["self","tokens"] ["self","tokens"] (ak lE):=cQ
theorem vE:ax ["self"] ["self"] (ak jk):=cQ
theorem o_:ax ["self","token"] ["self"] (ak lD):=cQ
theorem qK:ax ["self","sign"] ["self","sign"] (ak gz):=cQ
theorem lW:ax ["self"] ["self"] (ak eF):=cQ
theorem lV:ax ["self","sign"] ["self","sign"] (ak eE):=cQ
theorem jO:ax ["text","reader","piece"] ["text"] (ak g_):=cQ
theorem o7:ax ["reader","piece"] ["reader"] (ak iR):=cQ
theorem rh:ax ["reader","piece"] ["reader"] (ak jB):=cQ
theorem uc:ax ["reader","nots","piece","turn"] ["reader"] (ak kJ):=cQ
theorem jN:ax ["reader","first","choice"] ["reader"] (ak eV):=cQ
theorem rg:ax ["reader","piece","choice"] ["reader"] (ak jA):=cQ
theorem ud:ax ["reader","piece","choice"] ["reader"] (ak kK):=cQ
theorem uf:ax ["reader","sign"] ["reader"] (ak kN):=cQ
theorem rj:ax ["reader","place","size"] ["reader"] (ak jC):=cQ
theorem ue:ax ["reader","place","size"] ["reader"] (ak kM):=cQ
theorem o8:ax ["reader","piece"] ["reader"] (ak iS):=cQ
theorem xq:ax ["program","frame","values","place","instruction"] ["program","frame"] (ak rS):=cQ
theorem zy:ax ["instruction","values","frame"] ["instruction","values","frame"] (ak k8):=cQ
theorem BJ:ax ["instruction","values"] ["instruction","values"] (ak mM):=cQ
theorem kI:ax ["instruction","values","frame","code","number","start","y"] ["instruction","values","frame"] (ak iJ):=cQ
theorem x6:ax ["self"] ["self"] (ak jZ):=cQ
theorem vF:ax ["self","room","snap"] ["self","room","snap"] (ak jl):=cQ
theorem ja:ax ["self","time","way","frame","number"] ["self","time","way","frame"] (ak gh):=cQ
theorem ot:ax ["self","frame","kept"] ["self","frame"] (ak jY):=cQ
theorem i_:ax ["self","going"] ["self"] (ak gg):=cQ
theorem g8:ax ["self","kept"] ["self"] (ak eR):=cQ
theorem jt:ax ["self","number","frame"] ["self","number"] (ak gC):=cQ
theorem iC:ax ["self","number","frame"] ["self","number"] (ak fb):=cQ
theorem gR:ax ["self","slot","text","program","stop"] ["self","slot","text"] (ak eK):=cQ
theorem oC:ax ["self","slot"] ["self","slot"] (ak fc):=cQ
theorem gO:ax ["self","slot","refusal","program","told","instruction"] ["self","slot"] (ak eG):=cQ
theorem iD:ax ["self","slot","refusal"] ["self","slot"] (ak fg):=cQ
theorem js:ax ["self","slot","refusal"] ["self","slot"] (ak gA):=cQ
theorem i7:ax ["self","slot","frame","refusal"] ["self","slot","frame"] (ak gb):=cQ
theorem i9:ax ["self","number","frame","dump"] ["self","number"] (ak gf):=cQ
theorem i8:ax ["self","file"] ["self"] (ak gc):=cQ
theorem gQ:ax ["self","file","frames","frame"] ["self","file"] (ak eI):=cQ
theorem JY:ax ["slot"] ["slot"] (ak vJ):=cQ
theorem zG:ax ["capture","numbers","row"] ["capture","numbers","row"] (ak lq):=cQ
theorem BO:ax ["capture","numbers","row"] ["capture","numbers","row"] (ak m5):=cQ
theorem vD:ax ["capture","numbers","row"] ["capture","numbers","row"] (ak jj):=cQ
theorem BN:ax ["capture","numbers","row"] ["capture","numbers","row"] (ak mX):=cQ
theorem uj:ax ["capture","numbers","row"] ["capture","numbers","row"] (ak iM):=cQ
theorem ui:ax ["capture","numbers","row"] ["capture","numbers","row"] (ak iL):=cQ
theorem zH:ax ["capture","numbers","row"] ["capture","numbers","row"] (ak lx):=cQ
theorem xY:ax ["capture","numbers","row"] ["capture","numbers","row"] (ak jW):=cQ
theorem zI:ax ["capture","numbers","row"] ["capture","numbers","row"] (ak ly):=cQ
theorem zJ:ax ["capture","numbers","row"] ["capture","numbers","row"] (ak lz):=cQ
theorem zK:ax ["capture","numbers","row"] ["capture","numbers","row"] (ak lA):=cQ
theorem xX:ax ["capture","numbers","row"] ["capture","numbers","row"] (ak jV):=cQ
theorem zL:ax ["capture","numbers","row"] ["capture","numbers","row"] (ak lB):=cQ
theorem zF:ax ["capture","numbers","row"] ["capture","numbers","row"] (ak lp):=cQ
theorem uh:ax ["capture","numbers","row"] ["capture","numbers","row"] (ak iK):=cQ
theorem zE:ax ["calls","capture","told","place","call","numbers","row","start","answer"] ["calls"] (ak lX):=cQ
structure Def(K:Frag)(mg:Str->Option Value)(x:Str)(st:Stmt)(ps:List Str)(f:Addr)(fd:FuncData):Prop where
 fn:bU K x x st f fd
 bd:Binds K fd ps []
 nm:mg x=some (.ref f)
structure Mth(K:Frag)(C:Addr)(x q:Str)(st:Stmt)(ps:List Str)(f:Addr)(fd:FuncData):Prop where
 fn:bU K x q st f fd
 bd:Binds K fd ps []
 me:Meth K C x f
def GI(mg:Str->Option Value)(x:Str)(i:Int):Prop:=∃t,mg x=some (.int i t)
def GS(mg:Str->Option Value)(x:Str)(z:Str):Prop:=∃t,mg x=some (.str z t)
theorem cI{X:Cx}{i:Int}(h:GI X.mg x i)(hg:Gl X x:=by rfl)(hd:(x==("__debug__":Str))=false:=by decide):PE X (.Name x pos) (tC (.int i)):=by
 obtain⟨t,h⟩:=h;exact Fb hg h ⟨t,rfl⟩ hd
theorem HJ{X:Cx}(h:GS X.mg x z)(hg:Gl X x:=by rfl)(hd:(x==("__debug__":Str))=false:=by decide):PE X (.Name x pos) (tC (.str z)):=by
 obtain⟨t,h⟩:=h;exact Fb hg h ⟨t,rfl⟩ hd
theorem BV{X:Cx}(h:X.mg x=some (.ref a))(hg:Gl X x:=by rfl)(hd:(x==("__debug__":Str))=false:=by decide):PE X (.Name x pos) (tC (.ref a)):=Fb hg h rfl hd
theorem YJ(a b:Nat):Builtin.bitOr (a:Int) (b:Int)=((a|||b:Nat):Int):=Z8.R9 (Int.natCast_nonneg a) (Int.natCast_nonneg b)
section
inductive q_(g:Nat->Nat->Nat)(vs:List V)(H:Hp)(Q:VK)(_E:XK):Prop
 |mk (a b:Nat):vs=[.int a,.int b]->a<Sf84.W->b<Sf84.W->Q (.int (g a b)) H->q_ g vs H Q _E
theorem wu(vs:List V)(H:Hp)(Q:VK)(E:XK)(h:q_ g vs H Q E):vs.length=(["x","y"]:List Str).length:=by
 obtain⟨a,b,rfl,_⟩:=h;rfl
abbrev yT:Int:=18446744073709551616
theorem HS(F:bU K "total_of" "total_of" rQ f fd)(hL:GI mg "VALUE_LIMIT" yT):aP P w K mg base aV 1 f fd ["x","y"] (q_ (reckoned 0)):=by
 refine F.ok Hv wu (λbG A outer s H vs Q E hr h=>?_);obtain⟨a,b,rfl,ha,hb,k⟩:=h;refine⟨_,ag (aq (bb vW (bb ck (pv 0) (pv 1)) (cI hL))),?_⟩;refine⟨_,rfl,_,rfl,_,_,rfl,rfl,_,_,rfl,rfl,(by show(0:Int)<yT;decide),?_⟩;have e2:((a:Int)+b) % 18446744073709551616=((reckoned 0 a b:Nat):Int):=by
  show _=(((a+b) % 18446744073709551616:Nat):Int);omega
 show Q (V.int (((a:Int)+b) % 18446744073709551616)) H;rw[e2];exact k
theorem vY(F:bU K "difference_of" "difference_of" ji f fd)(hL:GI mg "VALUE_LIMIT" yT):aP P w K mg base aV 1 f fd ["x","y"] (q_ (reckoned 1)):=by
 refine F.ok vC wu (λbG A outer s H vs Q E hr h=>?_);obtain⟨a,b,rfl,ha,hb,k⟩:=h;refine⟨_,ag (aq (bb vW (bb vV (pv 0) (pv 1)) (cI hL))),?_⟩;refine⟨_,rfl,_,rfl,_,_,rfl,rfl,_,_,rfl,rfl,(by show(0:Int)<yT;decide),?_⟩;have e2:((a:Int) - b) % 18446744073709551616=((reckoned 1 a b:Nat):Int):=by
  show _=(((a+(18446744073709551616 - b % 18446744073709551616)) % 18446744073709551616:Nat):Int);omega
 show Q (V.int (((a:Int) - b) % 18446744073709551616)) H;rw[e2];exact k
theorem Ak(F:bU K "either_bits" "either_bits" lh f fd):aP P w K mg base aV 1 f fd ["x","y"] (q_ (reckoned 2)):=by
 refine F.ok zB wu (λbG A outer s H vs Q E hr h=>?_);obtain⟨a,b,rfl,ha,hb,k⟩:=h;refine⟨_,ag (aq (bb YB (pv 0) (pv 1))),?_⟩;refine⟨_,rfl,_,rfl,_,_,rfl,rfl,?_⟩;show Q (V.int (Builtin.bitOr a b)) H;rw[YJ];exact k
theorem Ca(F:bU K "product_of" "product_of" mI f fd)(hL:GI mg "VALUE_LIMIT" yT):aP P w K mg base aV 1 f fd ["x","y"] (q_ (reckoned 3)):=by
 refine F.ok BI wu (λbG A outer s H vs Q E hr h=>?_);obtain⟨a,b,rfl,ha,hb,k⟩:=h;have hW:Sf84.W=18446744073709551616:=rfl;refine⟨_,ag (aq (bb vW (bb Fi (pv 0) (pv 1)) (cI hL))),?_⟩;refine⟨_,rfl,_,rfl,_,_,rfl,rfl,.inl ⟨by omega,by omega⟩,_,_,rfl,rfl,(by show(0:Int)<yT;decide),?_⟩;have e2:((a:Int)*b) % 18446744073709551616=((reckoned 3 a b:Nat):Int):=by
  show _=(((a*b) % 18446744073709551616:Nat):Int);rw[Int.natCast_emod,Int.natCast_mul];rfl
 show Q (V.int (((a:Int)*b) % 18446744073709551616)) H;rw[e2];exact k
theorem Fy(F:bU K "both_bits" "both_bits" px f fd):aP P w K mg base aV 1 f fd ["x","y"] (q_ (reckoned 4)):=by
 refine F.ok E5 wu (λbG A outer s H vs Q E hr h=>?_);obtain⟨a,b,rfl,ha,hb,k⟩:=h;refine⟨_,ag (aq (bb VX (pv 0) (pv 1))),?_⟩;exact⟨_,rfl,_,rfl,_,_,rfl,rfl,k⟩
theorem B3(F:bU K "shifted_up" "shifted_up" mz f fd)(hL:GI mg "VALUE_LIMIT" yT)(hB:GI mg "VALUE_BITS" 64):aP P w K mg base aV 1 f fd ["x","y"] (q_ (reckoned 5)):=by
 refine F.ok BH wu (λbG A outer s H vs Q E hr h=>?_);obtain⟨a,b,rfl,ha,hb,k⟩:=h;refine⟨_,ae (a7 (aF uy (pv 1) (cI hB) (aK _)) (ag (aq ay)) aJ) (ag (aq (bb vW (bb VV (pv 0) (pv 1)) (cI hL)))),?_⟩;refine⟨_,rfl,_,_,rfl,rfl,_,rfl,eM (λhc=>?_) λhc=>?_⟩
 ·have WI:¬b<64:=by have:=cj hc;omega
  have e:reckoned 5 a b=0:=ah WI;rw[e]at k;exact k
 ·have WI:b<64:=by
   have:=eQ (Bool.eq_false_iff.mpr hc);omega
  have hW:Sf84.W=18446744073709551616:=rfl;refine⟨_,rfl,_,rfl,_,_,rfl,rfl,⟨by omega,by omega,by omega⟩,_,_,rfl,rfl,(by show(0:Int)<yT;decide),?_⟩;have e:reckoned 5 a b=a*2 ^ b % 18446744073709551616:=ai WI;have e2:((a:Int)*2 ^ ((b:Int).toNat)) % 18446744073709551616=((reckoned 5 a b:Nat):Int):=by
   rw[e,Int.natCast_emod,Int.natCast_mul,Int.toNat_natCast,Int.natCast_pow];rfl
  show Q (V.int (((a:Int)*2 ^ ((b:Int).toNat)) % 18446744073709551616)) H;rw[e2];exact k
theorem ya(F:bU K "shifted_down" "shifted_down" jR f fd)(hB:GI mg "VALUE_BITS" 64):aP P w K mg base aV 1 f fd ["x","y"] (q_ (reckoned 6)):=by
 refine F.ok xV wu (λbG A outer s H vs Q E hr h=>?_);obtain⟨a,b,rfl,ha,hb,k⟩:=h;refine⟨_,ae (a7 (aF uy (pv 1) (cI hB) (aK _)) (ag (aq ay)) aJ) (ag (aq (bb VU (pv 0) (pv 1)))),?_⟩;refine⟨_,rfl,_,_,rfl,rfl,_,rfl,eM (λhc=>?_) λhc=>?_⟩
 ·have WI:¬b<64:=by have:=cj hc;omega
  have e:reckoned 6 a b=0:=ah WI;rw[e]at k;exact k
 ·have WI:b<64:=by
   have:=eQ (Bool.eq_false_iff.mpr hc);omega
  refine⟨_,rfl,_,rfl,_,_,rfl,rfl,(by show(0:Int)<=(b:Int);omega),?_⟩;have e:reckoned 6 a b=a / 2 ^ b:=ai WI;have e2:(a:Int) / 2 ^ ((b:Int).toNat)=((reckoned 6 a b:Nat):Int):=by
   rw[e,Int.natCast_ediv,Int.toNat_natCast,Int.natCast_pow];rfl
  show Q (V.int ((a:Int) / 2 ^ ((b:Int).toNat))) H;rw[e2];exact k
def kb(k a b:Nat):Nat:=Sf84.flag (Sf84.compared k a b)
theorem ke{c:Bool}(k:Q (.int ((Sf84.flag b:Nat):Int)) H)(e:c=b):if c=true then Q (.int 1) H else Q (.int 0) H:=by
 subst e;cases c with
 |true=>exact k
 |false=>exact k
theorem bN{c:Bool}(h:b=true↔c=true):b=c:=Bool.eq_iff_iff.mpr h
theorem Lb(a b:Nat):decide (V.int a=V.int b)=Sf84.compared 0 a b:=bN (by
 rw[aI];show _↔(a==b)=true;rw[beq_iff_eq];exact⟨λh=>by injection h with q;omega,λh=>by rw[h]⟩)
theorem Gd(a b:Nat):(!decide (V.int a=V.int b))=Sf84.compared 1 a b:=by
 rw[Lb];rfl
theorem dec_lt(a b:Nat):decide ((a:Int)<b)=Sf84.compared 2 a b:=bN (by
 rw[aI];show _↔decide (a<b)=true;rw[aI];omega)
theorem WZ(a b:Nat):decide ((a:Int)<=b)=Sf84.compared 3 a b:=bN (by
 rw[aI];show _↔decide (a<=b)=true;rw[aI];omega)
theorem W0(a b:Nat):decide ((b:Int)<a)=Sf84.compared 4 a b:=bN (by
 rw[aI];show _↔decide (b<a)=true;rw[aI];omega)
theorem W2(a b:Nat):decide ((b:Int)<=a)=Sf84.compared 5 a b:=bN (by
 rw[aI];show _↔decide (b<=a)=true;rw[aI];omega)
theorem Ia(F:bU K "is_equal" "is_equal" rX f fd):aP P w K mg base aV 1 f fd ["x","y"] (q_ (kb 0)):=by
 refine F.ok Hz wu (λbG A outer s H vs Q E hr h=>?_);obtain⟨a,b,rfl,ha,hb,k⟩:=h;refine⟨_,ag (aq (dA (aF dg (pv 0) (pv 1) (aK _)) ay ay)),?_⟩;exact⟨_,rfl,_,rfl,rfl,_,rfl,ke k (Lb a b)⟩
theorem Cc(F:bU K "is_unequal" "is_unequal" mQ f fd):aP P w K mg base aV 1 f fd ["x","y"] (q_ (kb 1)):=by
 refine F.ok BK wu (λbG A outer s H vs Q E hr h=>?_);obtain⟨a,b,rfl,ha,hb,k⟩:=h;refine⟨_,ag (aq (dA (aF j0 (pv 0) (pv 1) (aK _)) ay ay)),?_⟩;exact⟨_,rfl,_,rfl,rfl,_,rfl,ke k (Gd a b)⟩
theorem Kj(F:bU K "is_less" "is_less" vL f fd):aP P w K mg base aV 1 f fd ["x","y"] (q_ (kb 2)):=by
 refine F.ok J0 wu (λbG A outer s H vs Q E hr h=>?_);obtain⟨a,b,rfl,ha,hb,k⟩:=h;refine⟨_,ag (aq (dA (aF oz (pv 0) (pv 1) (aK _)) ay ay)),?_⟩;exact⟨_,rfl,_,rfl,_,_,rfl,rfl,_,rfl,ke k (dec_lt a b)⟩
theorem Ce(F:bU K "is_at_most" "is_at_most" mU f fd):aP P w K mg base aV 1 f fd ["x","y"] (q_ (kb 3)):=by
 refine F.ok BM wu (λbG A outer s H vs Q E hr h=>?_);obtain⟨a,b,rfl,ha,hb,k⟩:=h;refine⟨_,ag (aq (dA (aF f_ (pv 0) (pv 1) (aK _)) ay ay)),?_⟩;exact⟨_,rfl,_,rfl,_,_,rfl,rfl,_,rfl,ke k (WZ a b)⟩
theorem Ki(F:bU K "is_more" "is_more" vK f fd):aP P w K mg base aV 1 f fd ["x","y"] (q_ (kb 4)):=by
 refine F.ok JZ wu (λbG A outer s H vs Q E hr h=>?_);obtain⟨a,b,rfl,ha,hb,k⟩:=h;refine⟨_,ag (aq (dA (aF ux (pv 0) (pv 1) (aK _)) ay ay)),?_⟩;exact⟨_,rfl,_,rfl,_,_,rfl,rfl,_,rfl,ke k (W0 a b)⟩
theorem Ai(F:bU K "is_at_least" "is_at_least" lg f fd):aP P w K mg base aV 1 f fd ["x","y"] (q_ (kb 5)):=by
 refine F.ok zA wu (λbG A outer s H vs Q E hr h=>?_);obtain⟨a,b,rfl,ha,hb,k⟩:=h;refine⟨_,ag (aq (dA (aF uy (pv 0) (pv 1) (aK _)) ay ay)),?_⟩;exact⟨_,rfl,_,rfl,_,_,rfl,rfl,_,rfl,ke k (W2 a b)⟩
inductive Ho(vs:List V)(H:Hp)(Q:VK)(_E:XK):Prop
 |mk (a:Nat):vs=[.int a]->Q (.int ((Sf84.flag (a==0):Nat):Int)) H->Ho vs H Q _E
theorem Ke(F:bU K "negated" "negated" vG f fd):aP P w K mg base aV 1 f fd ["x"] Ho:=by
 refine F.ok JW (λvs H Q E h=>?_) (λbG A outer s H vs Q E hr h=>?_)
 ·obtain⟨a,rfl,_⟩:=h;rfl
 ·obtain⟨a,rfl,k⟩:=h;refine⟨_,ag (aq (dA (aF dg (pv 0) ay (aK _)) ay ay)),?_⟩;exact⟨_,rfl,rfl,_,rfl,ke k (Lb a 0)⟩
structure Callee(X:Cx)(f:Addr)(sp:Sp):Prop where
 ex:∃(fd:FuncData) (ps:List Str) (k:Nat),aP X.prog X.w X.K X.mg X.base aV k f fd ps sp/\dR k X.A/\Binds X.K fd ps []
 kp:keepIn X.K (.ref f)=true
inductive ICX(X:Cx)(t:TA)(σ:L2.St)(Q:VK)(v:V)(H:Hp):Prop
 |mk (f:Addr) (sp:Sp) (e:v= .ref f) (g:Callee X f sp) (q:t σ H λvs H2=>sp vs H2 Q E0):ICX X t σ Q v H
def Vv(X:Cx)(tf:TE)(t:TA):TE:=λσ H Q=>tf σ H (ICX X t σ Q)
theorem z0{e:Expr}(hf:PE X fe tf)(ha:PA X (e::es) t)
  (he:starEach (e::es) X.env=(false,eval e X.env)::starEach es X.env:=by rfl) (uT:(backTo pos (starEach es X.env)).any (·.1)=false:=by rfl)
  (hq:eval (.Call fe (e::es) [] pos) X.env=(do callWith pos (<-eval fe X.env) [] (backTo pos (starEach (e::es) X.env)) []):=by rfl):PE X (.Call fe (e::es) [] pos) (Vv X tf t):=by
 intro pins s σ H Q I h;rw[hq];refine wpAny_bind (c_ (hf pins s σ H _ I h) λu s1 ⟨v,H1,I1,rv,f,sp,ev,c,q⟩=>?_);subst ev;cases rv;obtain⟨fd,ps,k,F,hr,hb⟩:=c.ex;refine PySem.W.callWith_K (h₀:=X.base) I1.ok.mod.UU c.kp (c_ (ha pos pins s1 σ H1 _ I1 q) λus s2 ⟨vs,H2,I2,r,q2⟩=>⟨I2.yM,?_⟩) he uT;exact zP (dvs:=[]) F hr hb .nil aE I2 r (by rw[gW];exact q2)
end
def KT(K:Frag)(a:Addr)(xs:List V):Prop:=∃(o:Obj) (its:Array Value) (n:Nat),K.lookup a=some o/\o.cls= .type "tuple"/\o.data= .seq its n/\its.size<=sizeLine/\Vals xs its.toList
theorem KT.sq(h:KT K a xs){H:Hp}:rB K H a xs:=.inr h
structure Calls(CX:JI)(P:Program)(w:World)(K:Frag)(mg:Str->Option Value)(f:Addr)(k:Nat)(sp:Sp):Prop where
 ex:∃(fd:FuncData) (ps:List Str),(∀base,aP P w K mg base CX k f fd ps sp)/\Binds K fd ps []
 kp:keepIn K (.ref f)=true
theorem Calls.mono{CX:JI}{P:Program}{w:World}{K:Frag}{mg:Str->Option Value}{f:Addr}{k:Nat}{sp:Sp}(C:Calls CX P w K mg f j sp)(h:j<=k):Calls CX P w K mg f k sp:=by
 obtain⟨⟨fd,ps,F,b⟩,kp⟩:=C;exact⟨⟨fd,ps,λbase=>(F base).mono h,b⟩,kp⟩
theorem aR{X:Cx}{p:Pos}{e:Expr}(C:Calls CX X.prog X.w X.K X.mg f k sp)(hm:X.mg x=some (.ref f))(hr:dR k X.A)(hx:Passes CX X E)(ha:PA X (e::es) t)
  (hg:Gl X x:=by rfl) (yn:(x==("__debug__":Str))=false:=by decide) (he:starEach (e::es) X.env=(false,eval e X.env)::starEach es X.env:=by rfl) (uT:(backTo pos (starEach es X.env)).any (·.1)=false:=by rfl):
  PE X (.Call (.Name x p) (e::es) [] pos) (zi sp [] E t):=by
 obtain⟨fd,ps,F,b⟩:=C.ex;exact Ts (F X.base) hr hg hm C.kp b .nil hx ha yn he uT
theorem VQ{X:Cx}{p:Pos}(C:Calls CX X.prog X.w X.K X.mg f k sp)(hm:X.mg x=some (.ref f))(hr:dR k X.A)(hx:Passes CX X E)
  (hg:Gl X x:=by rfl) (yn:(x==("__debug__":Str))=false:=by decide):
  PE X (.Call (.Name x p) [] [] pos) (zi sp [] E gj):=by
 obtain⟨fd,ps,F,b⟩:=C.ex;exact QI (F X.base) hr hg hm C.kp b .nil hx yn
theorem Calls.callee{X:Cx}(C:Calls aV X.prog X.w X.K X.mg f k sp)(hr:dR k X.A):Callee X f sp:=by
 obtain⟨⟨fd,ps,F,b⟩,kp⟩:=C;exact⟨⟨fd,ps,k,F X.base,hr,b⟩,kp⟩
theorem Def.calls(D:Def K mg x st ps f fd)(F:∀base,aP P w K mg base CX k f fd ps sp):Calls CX P w K mg f k sp:=
 ⟨⟨fd,ps,F,D.bd⟩,D.fn.kp⟩
section
inductive Qb(vs:List V)(H:Hp)(Q:VK)(_E:XK):Prop
 |mk (k a b:Nat):vs=[.int k,.int a,.int b]->k<=6->a<Sf84.W->b<Sf84.W->Q (.int (reckoned k a b:Nat)) H->Qb vs H Q _E
inductive Hq(vs:List V)(H:Hp)(Q:VK)(_E:XK):Prop
 |mk (k a b:Nat):vs=[.int k,.int a,.int b]->k<=5->a<Sf84.W->b<Sf84.W->Q (.int (kb k a b:Nat)) H->Hq vs H Q _E
theorem HZ{fs:List Addr}(F:bU K "operated" "operated" rW f fd)(hT:mg "OPERATIONS"=some (.ref t0))(kt:KT K t0 (fs.map V.ref))(hl:fs.length=7)
  (hc:∀(k:Nat) (g:Addr),fs[k]? =some g->Calls aV P w K mg g 1 (q_ (reckoned k))):aP P w K mg base aV 2 f fd ["choice","x","y"] Qb:=by
 refine F.ok Hx (λvs H Q E h=>?_) (λbG A outer s H vs Q E hr h=>?_)
 ·obtain⟨k,a,b,rfl,_⟩:=h;rfl
 ·obtain⟨k,a,b,rfl,hk,ha,hb,q⟩:=h;obtain⟨g,hg⟩:∃g,fs[k]? =some g:=⟨_,bx (by omega)⟩;refine⟨_,ag (aq (z0 (bu dP (BV hT) (pv 0) (λ_ _=>rfl)) (aa (pv 1) (aa (pv 2) aj)))),?_⟩;refine⟨_,rfl,t0,_,k,.ref g,rfl,rfl,kt.sq,bW (by rw[bO,hg];rfl),g,_,rfl,(hc k g hg).callee hr,_,rfl,_,rfl,?_⟩;exact⟨a,b,rfl,ha,hb,q⟩
theorem Ie{fs:List Addr}(F:bU K "compared" "compared" rZ f fd)(hT:mg "COMPARISONS"=some (.ref t0))(kt:KT K t0 (fs.map V.ref))(hl:fs.length=6)
  (hc:∀(k:Nat) (g:Addr),fs[k]? =some g->Calls aV P w K mg g 1 (q_ (kb k))):aP P w K mg base aV 2 f fd ["choice","x","y"] Hq:=by
 refine F.ok HB (λvs H Q E h=>?_) (λbG A outer s H vs Q E hr h=>?_)
 ·obtain⟨k,a,b,rfl,_⟩:=h;rfl
 ·obtain⟨k,a,b,rfl,hk,ha,hb,q⟩:=h;obtain⟨g,hg⟩:∃g,fs[k]? =some g:=⟨_,bx (by omega)⟩;refine⟨_,ag (aq (z0 (bu dP (BV hT) (pv 0) (λ_ _=>rfl)) (aa (pv 1) (aa (pv 2) aj)))),?_⟩;refine⟨_,rfl,t0,_,k,.ref g,rfl,rfl,kt.sq,bW (by rw[bO,hg];rfl),g,_,rfl,(hc k g hg).callee hr,_,rfl,_,rfl,?_⟩;exact⟨a,b,rfl,ha,hb,q⟩
end
abbrev vN(n:Nat):V:=.int (n:Int)
def bV(b:Bytes):List V:=b.map λc=>vN c.toNat
def dI(H:Hp)(a:Addr)(b:Bytes):Prop:=H a=some (.lst (bV b))
def mi(H:Hp)(r:Addr)(x:Nat×Nat):Prop:=H r=some (.tup [vN x.1,vN x.2])
structure bC(H:Hp)(a:Addr)(c:Sf84.Code)(rs:List Addr):Prop where
 lst:H a=some (.lst (rs.map V.ref))
 len:rs.length=c.length
 at_:∀(i:Nat) r x,rs[i]? =some r->c[i]? =some x->mi H r x
theorem bC.get(C:bC H a c rs){i:Nat}{x:Nat×Nat}(h:c[i]? =some x):∃r,rs[i]? =some r/\(rs.map V.ref)[i]? =some (.ref r)/\mi H r x:=by
 obtain⟨hi,_⟩:=List.getElem?_eq_some_iff.mp h;have JF:i<rs.length:=by have:=C.len;omega
 have hr:rs[i]? =some rs[i]:=bx JF;exact⟨_,hr,by rw[bO,hr];rfl,C.at_ i _ x hr h⟩
theorem bC.same(C:bC H a c rs)(s:a9 H H'):bC H' a c rs:=⟨s _ _ C.lst,C.len,λi r x h1 h2=>s _ _ (C.at_ i r x h1 h2)⟩
theorem Jq{x:V}:O6 [x,y] 1=some y:=rfl
theorem Bm{x:V}:O6 [x,y] 0=some x:=rfl
theorem dq(b:Bytes):(bV b).length=b.length:=by unfold bV;rw[aH]
section
inductive Hm(vs:List V)(H:Hp)(Q:VK)(_E:XK):Prop
 |mk (a:Addr) (b:Bytes):vs=[.ref a]->dI H a b->Q (vN (Sf84.number b)) H->Hm vs H Q _E
theorem sr(F:bU K "number_of_bytes" "number_of_bytes" hJ f fd)(hL:GI mg "BYTE_LIMIT" 256):aP P w K mg base aV 1 f fd ["row"] Hm:=by
 refine F.ok jP (λvs H Q E h=>?_) (λbG A outer s H vs Q E hr h=>?_)
 ·obtain⟨a,b,rfl,_⟩:=h;rfl
 ·obtain⟨a,b,rfl,hb,k⟩:=h;have nd:=jP.nd;refine⟨_,ae (aB (i:=1) nd rfl (Or.inl rfl) ay) (ae (gF PassesOwn.never rfl (dG (pv 0)) (bR (i:=2) nd rfl (Or.inl rfl))
   (ag (aB (i:=1) nd rfl (Or.inl rfl) (bb ck (bb Fi (pv 1) (cI hL)) (pv 2))))) (ag (aq (pv 1)))),?_⟩
  refine⟨_,rfl,a,rfl,⟨_,bp.of hb⟩,je (K:=K) (a:=a) (xs:=bV b) (λi σ H'=>∃v:Option V,σ=[some (.ref a),some (vN (Sf84.number (b.take i))),v]/\H'=H)
   ⟨none,rfl,rfl⟩ (λi σ H' _ ⟨_,_,e⟩=>by rw[e];exact bp.of hb) ?_ ?_⟩
  ·rintro i y σ H' hi ⟨v,rfl,rfl⟩
   obtain⟨c,hc,rfl⟩:∃c,b[i]? =some c/\y=vN c.toNat:=by
    unfold bV at hi;rw[bO]at hi;cases e:b[i]? with
    |none=>rw[e]at hi;cases hi
    |some c=>rw[e]at hi;exact⟨c,rfl,(aO hi).symm⟩
   refine⟨_,rfl,_,_,rfl,rfl,.inr ⟨by decide,by decide⟩,_,rfl,_,_,rfl,rfl,?_⟩;refine⟨some (vN c.toNat),?_,rfl⟩;have e:((Sf84.number (b.take i):Nat):Int)*256+(c.toNat:Int)=((Sf84.number (b.take (i+1)):Nat):Int):=by
    have q:b.take (i+1)=b.take i++[c]:=by
     rw[List.take_add_one,hc];rfl
    rw[q,Ih];omega
   show [some (V.ref a),some (V.int (((Sf84.number (b.take i):Nat):Int)*256+(c.toNat:Int))),some (vN c.toNat)]=_;rw[e]
  ·rintro σ H' ⟨v,rfl,rfl⟩
   refine⟨_,rfl,?_⟩;rw[dq,List.take_length];exact k
structure tj(mg:Str->Option Value):Prop where
 put:GI mg "PUT" 0
 Yt:GI mg "PUT_LENGTH" 1
 take:GI mg "TAKE_BYTES" 2
 YA:GI mg "OPERATE" 3
 comp:GI mg "COMPARE" 4
 neg:GI mg "NEGATE" 5
 no:GI mg "LEAVE_OUT_IF_NO" 6
 yes:GI mg "LEAVE_OUT_IF_YES" 7
 fin:GI mg "END" 8
theorem cu{c A B:Prop}[Decidable c](h:c)(k:A):if c then A else B:=by
 rw[ai h];exact k
theorem cx{c A B:Prop}[Decidable c](h:¬c)(k:B):if c then A else B:=by
 rw[ah h];exact k
def om(s:List Nat):List V:=s.reverse.map vN
theorem gZ(i:Nat)(s:List Nat):om (i::s)=om s++[vN i]:=by
 unfold om;rw[List.reverse_cons,bH];rfl
theorem tP(s:List Nat):(om s).length=s.length:=by
 unfold om;rw[aH,List.length_reverse]
theorem iY(i:Nat)(s:List Nat):(om (i::s))[(om (i::s)).length - 1]? =some (vN i):=by
 rw[gZ,ba];simp
theorem iZ(i:Nat)(s:List Nat):(om (i::s)).dropLast=om s:=by
 rw[gZ,List.dropLast_concat]
theorem yQ(i:Nat)(s:List Nat):O6 (om (i::s)) (-1)=some (vN i):=by
 rw[gZ];exact Sb _ _
theorem W4{a b:Nat}:decide (V.int (a:Int)=V.int (b:Int))=decide (a=b):=bN (by
 rw[aI,aI];exact⟨λh=>by injection h with q;omega,λh=>by rw[h]⟩)
def AO(x:Nat×Nat)(s:List Nat)(b:Bytes):Bool:=decide (x.1=2)&&(match s with|i::_=>decide (b.length<i+x.2)|[]=>false)
inductive yE(vs:List V)(H:Hp)(Q:VK)(_E:XK):Prop
 |mk (r v fr:Addr) (x:Nat×Nat) (s:List Nat) (b:Bytes):vs=[.ref r,.ref v,.ref fr]->mi H r x->H v=some (.lst (om s))->dI H fr b->((x.1=2->s≠[]))->Q (.bl (AO x s b)) H->yE vs H Q _E
theorem Ag(F:bU K "lacks_bytes" "lacks_bytes" k8 f fd)(C:tj mg)(hlen:mg "len"=none):aP P w K mg base aV 1 f fd ["instruction","values","frame"] yE:=by
 refine F.ok zy (λvs H Q E h=>?_) (λbG A outer s H vs Q E hr h=>?_)
 ·obtain⟨r,v,fr,x,s,b,rfl,_⟩:=h;rfl
 ·obtain⟨r,v,fr,x,st,b,rfl,hx,hv,hb,fR,k⟩:=h;refine⟨_,ag (aq (Fc (iU dg (bu dP (pv 0) ay (λ_ _=>rfl)) (cI C.take) (aK _)) (zY (iU ux (bb ck (bu bq (pv 1) (rl kZ ay) (λ_ _=>rfl)) (bu dP (pv 0) ay (λ_ _=>rfl))) (cb dv (by rfl) hlen PySem.boot_len (aa (pv 2) aj)) (aK _))))),?_⟩;refine⟨_,rfl,r,_,0,_,rfl,rfl,rB.of hx,Bm,rfl,_,rfl,eM (λhc=>?_) λhc=>?_⟩
  ·have h2:x.1=2:=by
    have:=cj hc;injection this with q
    omega
   match st,hv,fR h2,k with
   |i::st,hv,_,k=>
    refine⟨_,rfl,_,rfl,v,_, -1,_,rfl,rfl,bp.of hv,yQ i st,_,rfl,r,_,1,_,rfl,rfl,rB.of hx,Jq,_,_,rfl,rfl,_,rfl,fr,_,rfl,.inl (bp.of hb),_,_,rfl,rfl,?_⟩;have e:decide (((bV b).length:Int)<(i:Int)+(x.2:Int))=AO x (i::st) b:=by
     unfold AO;rw[aN h2,Bool.true_and,dq];apply bN;rw[aI,aI];omega
    show Q (V.bl (decide (((bV b).length:Int)<(i:Int)+(x.2:Int)))) H;rw[e];exact k
  ·have h2:¬x.1=2:=by
    intro q;apply hc;rw[q];exact aN rfl
   have e:AO x st b=false:=by
    unfold AO;rw[aQ h2];rfl
   rw[e]at k;exact k
end
section
def il(x:Nat×Nat)(s:List Nat):Bool:=match s with
 |i::_=>if x.1=6 then decide (i=0)else decide (x.1=7)&& !decide (i=0)
 |[]=>false
inductive tT(vs:List V)(H:Hp)(Q:VK)(_E:XK):Prop
 |mk (r v:Addr) (x:Nat×Nat) (s:List Nat):vs=[.ref r,.ref v]->mi H r x->H v=some (.lst (om s))->((x.1=6\/x.1=7->s≠[]))->Q (.bl (il x s)) H->tT vs H Q _E
theorem Vd{a:Nat}:decide (V.int (a:Int)=V.int b)=decide ((a:Int)=b):=bN (by
 rw[aI,aI];exact⟨λh=>by injection h,λh=>by rw[h]⟩)
theorem Cb(F:bU K "leaves_out" "leaves_out" mM f fd)(C:tj mg):aP P w K mg base aV 1 f fd ["instruction","values"] tT:=by
 refine F.ok BJ (λvs H Q E h=>?_) (λbG A outer s H vs Q E hr h=>?_)
 ·obtain⟨r,v,x,s,rfl,_⟩:=h;rfl
 ·obtain⟨r,v,x,st,rfl,hx,hv,fR,k⟩:=h;refine⟨_,ae (a7 (aF dg (bu dP (pv 0) ay (λ_ _=>rfl)) (cI C.no) (aK _)) (ag (aq (iU dg (bu bq (pv 1) (rl kZ ay) (λ_ _=>rfl)) ay (aK _)))) aJ)
   (ag (aq (Fc (iU dg (bu dP (pv 0) ay (λ_ _=>rfl)) (cI C.yes) (aK _)) (zY (iU j0 (bu bq (pv 1) (rl kZ ay) (λ_ _=>rfl)) ay (aK _)))))),?_⟩
  refine⟨_,rfl,r,_,0,_,rfl,rfl,rB.of hx,Bm,rfl,_,rfl,eM (λhc=>?_) λhc=>?_⟩
  ·have h6:x.1=6:=by
    have:=cj hc;injection this with q
    omega
   match st,hv,fR (.inl h6),k with
   |i::st,hv,_,k=>
    refine⟨_,rfl,_,rfl,v,_, -1,_,rfl,rfl,bp.of hv,yQ i st,rfl,?_⟩;have e:decide (V.int (i:Int)=V.int 0)=il x (i::st):=by
     unfold il;dsimp only;rw[ai h6,Vd];apply bN;rw[aI,aI];omega
    show Q (V.bl (decide (V.int (i:Int)=V.int 0))) H;rw[e];exact k
  ·have h6:¬x.1=6:=by
    intro q;apply hc;rw[q];exact aN rfl
   refine⟨_,rfl,r,_,0,_,rfl,rfl,rB.of hx,Bm,rfl,_,rfl,eM (λhc=>?_) λhc=>?_⟩
   ·have h7:x.1=7:=by
     have:=cj hc;injection this with q
     omega
    match st,hv,fR (.inr h7),k with
    |i::st,hv,_,k=>
     refine⟨_,rfl,_,rfl,v,_, -1,_,rfl,rfl,bp.of hv,yQ i st,rfl,?_⟩;have e:(!decide (V.int (i:Int)=V.int 0))=il x (i::st):=by
      unfold il;dsimp only;rw[ah h6,aN h7,Bool.true_and,Vd]
      congr 1
      apply bN;rw[aI,aI];omega
     show Q (V.bl (!decide (V.int (i:Int)=V.int 0))) H;rw[e];exact k
   ·have h7:¬x.1=7:=by
     intro q;apply hc;rw[q];exact aN rfl
    have e:il x st=false:=by
     unfold il;cases st with
     |nil=>rfl
     |cons i st=>
      dsimp only;rw[ah h6,aQ h7];rfl
    rw[e]at k;exact k
theorem Lm{b:Bytes}(h:i+n<=b.length):d4 (bV b) (some (i:Int)) (some ((i:Int)+(n:Int)))=bV ((b.drop i).take n):=by
 have e:(i:Int)+(n:Int)=((i+n:Nat):Int):=by omega
 unfold d4;rw[e,HT.ia,HT.ia,dq,Nat.min_eq_left (by omega),Nat.min_eq_left (by omega),show i+n - i=n by omega];unfold bV;rw[<-List.map_drop,<-List.map_take]
inductive S5(vs:List V)(H:Hp)(Q:VK)(_E:XK):Prop
 |mk (r v fr:Addr) (x:Nat×Nat) (s t:List Nat) (b:Bytes):vs=[.ref r,.ref v,.ref fr]->mi H r x->H v=some (.lst (om s))->dI H fr b->v≠fr->x.1<=7->((∃tu,Sf84.needs x=some tu))->stepped b x s= .on 0 t->((∀z∈s,z<Sf84.W))->s.length<=100->il x s=false->(∀H':Hp,H' v=some (.lst (om t))->(∀a o,H a=some o->a≠v->H' a=some o)->Q .dt H')->S5 vs H Q _E
theorem V4(h:Sf84.needs (3,n)=some tu):n<=6:=by
 by_cases q:n<=6
 ·exact q
 ·unfold Sf84.needs at h;simp[q]at h
theorem V3(h:Sf84.needs (4,n)=some tu):n<=5:=by
 by_cases q:n<=5
 ·exact q
 ·unfold Sf84.needs at h;simp[q]at h
theorem zt(h:n<=1000):n<sizeLine:=Dz h
theorem uD(F:bU K "do_instruction" "do_instruction" iJ f fd)(C:tj mg)(hlen:mg "len"=none)
  (mO:mg "operated"=some (.ref fO)) (cO:Calls aV P w K mg fO 2 Qb) (mC:mg "compared"=some (.ref fC)) (cC:Calls aV P w K mg fC 2 Hq) (mN:mg "negated"=some (.ref fN)) (cN:Calls aV P w K mg fN 1 Ho)
  (mB:mg "number_of_bytes"=some (.ref fB)) (cB:Calls aV P w K mg fB 1 Hm):aP P w K mg base aV 3 f fd ["instruction","values","frame"] S5:=by
 refine F.ok kI (λvs H Q E h=>?_) (λbG A outer s H vs Q E hr h=>?_)
 ·obtain⟨r,v,fr,x,s,t,b,rfl,_⟩:=h;rfl
 ·obtain⟨r,v,fr,x,st,t,b,rfl,hx,hv,hb,fR,h7,⟨tu,htu⟩,eN,hw,d8,Ww,k⟩:=h;have nd:=kI.nd;have jL:=hr.mono (show 1<=2 by decide);refine⟨_,ae (aB (i:=3) nd rfl (Or.inl rfl) (bu dP (pv 0) ay (λ_ _=>rfl))) (ae (aB (i:=4) nd rfl (Or.inl rfl) (bu dP (pv 0) ay (λ_ _=>rfl)))
   (ag (a7 (aF dg (pv 3) (cI C.put) (aK _)) (ag (aU (lZ PySem.F.plainAttrs_list PySem.F.slot_list_append PySem.F.type_list_append eA (pv 1) (aa (pv 4) aj))))
   (ag (a7 (aF dg (pv 3) (cI C.Yt) (aK _)) (ag (aU (lZ PySem.F.plainAttrs_list PySem.F.slot_list_append PySem.F.type_list_append eA (pv 1) (aa (cb dv (by rfl) hlen PySem.boot_len (aa (pv 2) aj)) aj))))
   (ag (a7 (aF dg (pv 3) (cI C.take) (aK _)) (ae (aB (i:=5) nd rfl (Or.inl rfl) (r_ PySem.F.plainAttrs_list PySem.F.slot_list_pop PySem.F.type_list_pop sv (pv 1)))
     (ag (aU (lZ PySem.F.plainAttrs_list PySem.F.slot_list_append PySem.F.type_list_append eA (pv 1) (aa (aR cB mB jL aE (aa (de fw (pv 2) (bQ (pv 5)) (bQ (bb ck (pv 5) (pv 4)))) aj)) aj)))))
   (ag (a7 (aF dg (pv 3) (cI C.YA) (aK _)) (ae (aB (i:=6) nd rfl (Or.inl rfl) (r_ PySem.F.plainAttrs_list PySem.F.slot_list_pop PySem.F.type_list_pop sv (pv 1)))
     (ag (aU (lZ PySem.F.plainAttrs_list PySem.F.slot_list_append PySem.F.type_list_append eA (pv 1) (aa (aR cO mO hr aE (aa (pv 4) (aa (r_ PySem.F.plainAttrs_list PySem.F.slot_list_pop PySem.F.type_list_pop sv (pv 1)) (aa (pv 6) aj)))) aj)))))
   (ag (a7 (aF dg (pv 3) (cI C.comp) (aK _)) (ae (aB (i:=6) nd rfl (Or.inl rfl) (r_ PySem.F.plainAttrs_list PySem.F.slot_list_pop PySem.F.type_list_pop sv (pv 1)))
     (ag (aU (lZ PySem.F.plainAttrs_list PySem.F.slot_list_append PySem.F.type_list_append eA (pv 1) (aa (aR cC mC hr aE (aa (pv 4) (aa (r_ PySem.F.plainAttrs_list PySem.F.slot_list_pop PySem.F.type_list_pop sv (pv 1)) (aa (pv 6) aj)))) aj)))))
   (ag (a7 (aF dg (pv 3) (cI C.neg) (aK _)) (ag (aU (lZ PySem.F.plainAttrs_list PySem.F.slot_list_append PySem.F.type_list_append eA (pv 1) (aa (aR cN mN jL aE (aa (r_ PySem.F.plainAttrs_list PySem.F.slot_list_pop PySem.F.type_list_pop sv (pv 1)) aj)) aj))))
   (ag (aU (r_ PySem.F.plainAttrs_list PySem.F.slot_list_pop PySem.F.type_list_pop sv (pv 1))))))))))))))))),?_⟩
  obtain⟨c,n⟩:=x;refine⟨_,rfl,r,_,0,_,rfl,rfl,rB.of hx,Bm,_,rfl,r,_,1,_,rfl,rfl,rB.of hx,Jq,?_⟩;have JC:(om st).length<sizeLine:=by rw[tP];exact zt (by omega)
  have za:∀{xs:List V} (a:Addr) (o:HO),H a=some o->a≠v->(upd H v (.lst xs)) a=some o:=λa o e h=>by rw[ao h];exact e
  match c,h7 with
  |0,_=>
   cases eN;refine⟨_,rfl,rfl,_,rfl,cu rfl ?_⟩;refine⟨_,rfl,.inl ⟨rfl,_,bp.of hv⟩,_,rfl,v,_,_,rfl,rfl,hv,JC,?_⟩;exact k _ (by rw[af,gZ]<;>rfl) za
  |1,_=>
   cases eN;refine⟨_,rfl,rfl,_,rfl,cx az ?_⟩;refine⟨_,rfl,rfl,_,rfl,cu rfl ?_⟩;refine⟨_,rfl,.inl ⟨rfl,_,bp.of hv⟩,_,rfl,fr,_,rfl,.inl (bp.of hb),v,_,_,rfl,rfl,hv,JC,?_⟩;refine k _ ?_ za;rw[af,gZ,dq]
  |2,_=>
   refine⟨_,rfl,rfl,_,rfl,cx az ?_⟩;refine⟨_,rfl,rfl,_,rfl,cx az ?_⟩;refine⟨_,rfl,rfl,_,rfl,cu rfl ?_⟩
   match st,hv,eN,hw,d8,JC with
   |i::st,hv,eN,hw,d8,JC=>
    by_cases vw:i+n<=b.length
    ·have es:stepped b (2,n) (i::st)= .on 0 (Sf84.number ((b.drop i).take n)::st):=by
      show(match Sf84.at_ b i n with|some m=>Sf84.Went.on 0 (m::st)|none=>.says false)=_;unfold Sf84.at_;rw[ai vw]
     rw[es]at eN;cases eN;refine⟨_,rfl,.inl ⟨rfl,_,bp.of hv⟩,v,_,_,rfl,rfl,hv,iY i st,?_⟩;rw[iZ];have N9:(upd H v (.lst (om st))) v=some (.lst (om st)):=af;have SE:(upd H v (.lst (om st))) fr=some (.lst (bV b)):=by rw[ao (Ne.symm fR)];exact hb
     refine⟨_,rfl,.inl ⟨rfl,_,bp.of N9⟩,_,rfl,_,rfl,_,rfl,_,rfl,_,rfl,_,_,rfl,rfl,_,rfl,fr,_,rfl,bp.of SE,λp hp=>?_⟩;have hpv:v≠p:=au N9 hp;refine⟨p,(b.drop i).take n,rfl,?_,?_⟩
     ·show(upd (upd H v (.lst (om st))) p _) p=_;rw[af,Lm vw]
     ·refine⟨v,_,_,rfl,rfl,by rw[ao hpv];exact N9,by rw[tP];exact zt (by simp at d8;omega),?_⟩;refine k _ (by rw[af,gZ]) λa o e h=>?_
      have hap:a≠p:=au (show(upd H v (.lst (om st))) a=some o by rw[ao h];exact e) hp;rw[ao h,ao hap,ao h];exact e
    ·exfalso;have es:stepped b (2,n) (i::st)= .says false:=by
      show(match Sf84.at_ b i n with|some m=>Sf84.Went.on 0 (m::st)|none=>.says false)=_;unfold Sf84.at_;rw[ah vw]
     rw[es]at eN;cases eN
  |3,_=>
   refine⟨_,rfl,rfl,_,rfl,cx az ?_⟩;refine⟨_,rfl,rfl,_,rfl,cx az ?_⟩;refine⟨_,rfl,rfl,_,rfl,cx az ?_⟩;refine⟨_,rfl,rfl,_,rfl,cu rfl ?_⟩
   match st,hv,eN,hw,d8,JC with
   |j::i::st,hv,eN,hw,d8,JC=>
    cases eN;refine⟨_,rfl,.inl ⟨rfl,_,bp.of hv⟩,v,_,_,rfl,rfl,hv,iY j _,?_⟩;rw[iZ];have N9:(upd H v (.lst (om (i::st)))) v=some (.lst (om (i::st))):=af;refine⟨_,rfl,.inl ⟨rfl,_,bp.of N9⟩,_,rfl,_,rfl,.inl ⟨rfl,_,bp.of N9⟩,v,_,_,rfl,rfl,N9,iY i _,_,rfl,?_⟩;rw[iZ,tI];have Wn:(upd H v (.lst (om st))) v=some (.lst (om st)):=af;refine⟨n,i,j,rfl,V4 htu,hw i (by simp),hw j (by simp),v,_,_,rfl,rfl,Wn,by rw[tP];exact zt (by simp at d8;omega),?_⟩;rw[tI];exact k _ (by rw[af,gZ]) za
  |4,_=>
   refine⟨_,rfl,rfl,_,rfl,cx az ?_⟩;refine⟨_,rfl,rfl,_,rfl,cx az ?_⟩;refine⟨_,rfl,rfl,_,rfl,cx az ?_⟩;refine⟨_,rfl,rfl,_,rfl,cx az ?_⟩;refine⟨_,rfl,rfl,_,rfl,cu rfl ?_⟩
   match st,hv,eN,hw,d8,JC with
   |j::i::st,hv,eN,hw,d8,JC=>
    cases eN;refine⟨_,rfl,.inl ⟨rfl,_,bp.of hv⟩,v,_,_,rfl,rfl,hv,iY j _,?_⟩;rw[iZ];have N9:(upd H v (.lst (om (i::st)))) v=some (.lst (om (i::st))):=af;refine⟨_,rfl,.inl ⟨rfl,_,bp.of N9⟩,_,rfl,_,rfl,.inl ⟨rfl,_,bp.of N9⟩,v,_,_,rfl,rfl,N9,iY i _,_,rfl,?_⟩;rw[iZ,tI];have Wn:(upd H v (.lst (om st))) v=some (.lst (om st)):=af;refine⟨n,i,j,rfl,V3 htu,hw i (by simp),hw j (by simp),v,_,_,rfl,rfl,Wn,by rw[tP];exact zt (by simp at d8;omega),?_⟩;rw[tI];exact k _ (by rw[af,gZ]<;>rfl) za
  |5,_=>
   refine⟨_,rfl,rfl,_,rfl,cx az ?_⟩;refine⟨_,rfl,rfl,_,rfl,cx az ?_⟩;refine⟨_,rfl,rfl,_,rfl,cx az ?_⟩;refine⟨_,rfl,rfl,_,rfl,cx az ?_⟩;refine⟨_,rfl,rfl,_,rfl,cx az ?_⟩;refine⟨_,rfl,rfl,_,rfl,cu rfl ?_⟩
   match st,hv,eN,hw,d8,JC with
   |i::st,hv,eN,hw,d8,JC=>
    cases eN;refine⟨_,rfl,.inl ⟨rfl,_,bp.of hv⟩,_,rfl,.inl ⟨rfl,_,bp.of hv⟩,v,_,_,rfl,rfl,hv,iY i _,?_⟩;rw[iZ];have N9:(upd H v (.lst (om st))) v=some (.lst (om st)):=af;refine⟨i,rfl,v,_,_,rfl,rfl,N9,by rw[tP];exact zt (by simp at d8;omega),?_⟩;rw[tI];exact k _ (by rw[af,gZ]<;>rfl) za
  |6,_=>
   refine⟨_,rfl,rfl,_,rfl,cx az ?_⟩;refine⟨_,rfl,rfl,_,rfl,cx az ?_⟩;refine⟨_,rfl,rfl,_,rfl,cx az ?_⟩;refine⟨_,rfl,rfl,_,rfl,cx az ?_⟩;refine⟨_,rfl,rfl,_,rfl,cx az ?_⟩;refine⟨_,rfl,rfl,_,rfl,cx az ?_⟩
   match st,hv,eN,hw,d8,JC,Ww with
   |i::st,hv,eN,hw,d8,JC,Ww=>
    have hi:¬i=0:=eQ Ww;have es:stepped b (6,n) (i::st)= .on 0 st:=ah hi;rw[es]at eN;cases eN;refine⟨_,rfl,.inl ⟨rfl,_,bp.of hv⟩,v,_,_,rfl,rfl,hv,iY i _,?_⟩;rw[iZ];exact k _ af za
  |7,_=>
   refine⟨_,rfl,rfl,_,rfl,cx az ?_⟩;refine⟨_,rfl,rfl,_,rfl,cx az ?_⟩;refine⟨_,rfl,rfl,_,rfl,cx az ?_⟩;refine⟨_,rfl,rfl,_,rfl,cx az ?_⟩;refine⟨_,rfl,rfl,_,rfl,cx az ?_⟩;refine⟨_,rfl,rfl,_,rfl,cx az ?_⟩
   match st,hv,eN,hw,d8,JC,Ww with
   |i::st,hv,eN,hw,d8,JC,Ww=>
    have hi:i=0:=by
     by_cases q:i=0
     ·exact q
     ·have:il (7,n) (i::st)=true:=by
       unfold il;simp[q]
      rw[this]at Ww;cases Ww
    have es:stepped b (7,n) (i::st)= .on 0 st:=ai hi;rw[es]at eN;cases eN;refine⟨_,rfl,.inl ⟨rfl,_,bp.of hv⟩,v,_,_,rfl,rfl,hv,iY i _,?_⟩;rw[iZ];exact k _ af za
end
theorem FI{x:Nat×Nat}{s:List Nat}{b:Bytes}(S:Step c ht p x)(hs:s.length=ht p)(h8:x.1≠8)(hw:∀z∈s,z<Sf84.W)(hb:b.length<Sf84.W):
  x.1<=7/\(x.1=2->s≠[])/\(x.1=6\/x.1=7->s≠[])/\((AO x s b=true/\stepped b x s= .says false)\/(AO x s b=false/\((il x s=true/\stepped b x s= .on x.2 s/\s.length=ht (p+1+x.2)/\p+1+x.2<c.length)\/
   (il x s=false/\∃t,stepped b x s= .on 0 t/\t.length=ht (p+1)/\p+1<c.length/\∀z∈t,z<Sf84.W)))):=by
 obtain⟨⟨t,u,hn,T7,hnx⟩,hd,hj⟩:=S;obtain⟨U1,hp2⟩:=hnx h8;obtain⟨k,n⟩:=x;dsimp only at*;have hW:Sf84.W=18446744073709551616:=rfl;have low:∀{y:Nat} {r:List Nat},y<Sf84.W->(∀z∈r,z<Sf84.W)->∀z∈y::r,z<Sf84.W:=λh1 h2 z hz=>by
  rcases List.mem_cons.mp hz with q|q
  ·rw[q];exact h1
  ·exact h2 z q
 have RI:∀q:Bool,Sf84.flag q<Sf84.W:=λq=>by cases q<;>decide
 unfold Sf84.needs at hn;dsimp only at hn;by_cases h0:k=0/\n<Sf84.W
 ·rw[ai h0]at hn;cases hn;obtain⟨rfl,h0⟩:=h0;refine⟨by omega,λq=>by omega,λq=>by omega,.inr ⟨rfl,.inr ⟨?_,n::s,rfl,?_,U1,low h0 hw⟩⟩⟩
  ·cases s<;>rfl
  ·simp;omega
 rw[ah h0]at hn;by_cases h1:k=1/\n=0
 ·rw[ai h1]at hn;cases hn;obtain⟨rfl,rfl⟩:=h1;refine⟨by omega,λq=>by omega,λq=>by omega,.inr ⟨rfl,.inr ⟨?_,b.length::s,rfl,?_,U1,low hb hw⟩⟩⟩
  ·cases s<;>rfl
  ·simp;omega
 rw[ah h1]at hn;by_cases h2:k=2/\1<=n/\n<=8
 ·rw[ai h2]at hn;cases hn;obtain⟨rfl,h2,U8⟩:=h2
  match s,hs,hw with
  |[],hs,_=>simp at hs;omega
  |i::s,hs,hw=>
   refine⟨by omega,λ_=>by simp,λq=>by omega,?_⟩;by_cases vw:i+n<=b.length
   ·refine .inr ⟨?_,.inr ⟨rfl,Sf84.number ((b.drop i).take n)::s,?_,?_,U1,low ?_ λz hz=>hw z (aS _ hz)⟩⟩
    ·show(true&&decide (b.length<i+n))=false;rw[aQ (by omega)];rfl
    ·show(match Sf84.at_ b i n with|some m=>Sf84.Went.on 0 (m::s)|none=>.says false)=_;unfold Sf84.at_;rw[ai vw]
    ·simp at hs ⊢;omega
    ·have:=NC ((b.drop i).take n);refine dh this ?_;have hl:((b.drop i).take n).length<=8:=by rw[bE];omega
     exact a8 (Nat.pow_le_pow_right (by decide) hl) (by decide)
   ·refine .inl ⟨?_,?_⟩
    ·show(true&&decide (b.length<i+n))=true;rw[aN (by omega)];rfl
    ·show(match Sf84.at_ b i n with|some m=>Sf84.Went.on 0 (m::s)|none=>.says false)=_;unfold Sf84.at_;rw[ah vw]
 rw[ah h2]at hn;by_cases h3:k=3/\n<=6
 ·rw[ai h3]at hn;cases hn;obtain⟨rfl,h3⟩:=h3
  match s,hs,hw with
  |[],hs,_=>simp at hs;omega
  |[_],hs,_=>simp at hs;omega
  |j::i::s,hs,hw=>
   refine⟨by omega,λq=>by omega,λq=>by omega,.inr ⟨rfl,.inr ⟨rfl,reckoned n i j::s,rfl,?_,U1,low (xy (hw i (by simp)) (hw j (by simp))) λz hz=>hw z (aS _ (aS _ hz))⟩⟩⟩;simp at hs ⊢;omega
 rw[ah h3]at hn;by_cases h4:k=4/\n<=5
 ·rw[ai h4]at hn;cases hn;obtain⟨rfl,h4⟩:=h4
  match s,hs,hw with
  |[],hs,_=>simp at hs;omega
  |[_],hs,_=>simp at hs;omega
  |j::i::s,hs,hw=>
   refine⟨by omega,λq=>by omega,λq=>by omega,.inr ⟨rfl,.inr ⟨rfl,Sf84.flag (Sf84.compared n i j)::s,rfl,?_,U1,low (RI _) λz hz=>hw z (aS _ (aS _ hz))⟩⟩⟩;simp at hs ⊢;omega
 rw[ah h4]at hn;by_cases h5:k=5/\n=0
 ·rw[ai h5]at hn;cases hn;obtain⟨rfl,rfl⟩:=h5
  match s,hs,hw with
  |[],hs,_=>simp at hs;omega
  |i::s,hs,hw=>
   refine⟨by omega,λq=>by omega,λq=>by omega,.inr ⟨rfl,.inr ⟨rfl,Sf84.flag (i==0)::s,rfl,?_,U1,low (RI _) λz hz=>hw z (aS _ hz)⟩⟩⟩;simp at hs ⊢;omega
 rw[ah h5]at hn;by_cases h6:k=6\/k=7
 ·rw[ai h6]at hn;cases hn;obtain⟨j1,j2⟩:=hj h6
  match s,hs,hw with
  |[],hs,_=>simp at hs;omega
  |i::s,hs,hw=>
   refine⟨by omega,λq=>by omega,λ_=>by simp,.inr ⟨?_,?_⟩⟩
   ·show(decide (k=2)&&_)=false;rw[aQ (by omega)];rfl
   ·have hl:s.length=ht (p+1):=by simp at hs;omega
    have T6:∀z∈s,z<Sf84.W:=λz hz=>hw z (aS _ hz)
    rcases h6 with rfl|rfl
    ·by_cases hi:i=0
     ·refine .inl ⟨aN hi,ai hi,by omega,j1⟩
     ·refine .inr ⟨aQ hi,s,ah hi,hl,U1,T6⟩
    ·by_cases hi:i=0
     ·refine .inr ⟨?_,s,ai hi,hl,U1,T6⟩;unfold il;simp[hi]
     ·refine .inl ⟨?_,ah hi,by omega,j1⟩;unfold il;simp[hi]
 rw[ah h6,ah (by omega)]at hn;cases hn
section
def intAt(σ:L2.St)(i:Nat):Nat:=match σ[i]? with
 |some (some (.int z))=>z.toNat
 |_=>0
inductive rK(vs:List V)(H:Hp)(Q:VK)(_E:XK):Prop
 |mk (a fr:Addr) (c:Sf84.Code) (rs:List Addr) (b:Bytes):vs=[.ref a,.ref fr]->bC H a c rs->Sf84.fault c=none->dI H fr b->b.length<Sf84.W->(∀H':Hp,a9 H H'->Q (.bl (Sf84.Code.says c b)) H')->rK vs H Q _E
theorem HW(F:bU K "says_yes" "says_yes" rS f fd)(C:tj mg)
  (mL:mg "lacks_bytes"=some (.ref fL)) (cL:Calls aV P w K mg fL 1 yE) (mE:mg "leaves_out"=some (.ref fE)) (cE:Calls aV P w K mg fE 1 tT) (mD:mg "do_instruction"=some (.ref fD)) (cD:Calls aV P w K mg fD 3 S5):
  aP P w K mg base aV 4 f fd ["program","frame"] rK:=by
 refine F.ok xq (λvs H Q E h=>?_) (λbG A outer s H vs Q E hr h=>?_)
 ·obtain⟨a,fr,c,rs,b,rfl,_⟩:=h;rfl
 ·obtain⟨a,fr,c,rs,b,rfl,hc,hf,hb,hbW,k⟩:=h;obtain⟨ht,S⟩:=zr hf;have nd:=xq.nd;have jL:=hr.mono (show 1<=3 by decide);refine⟨_,ae (aB (i:=2) nd rfl (Or.inl rfl) (aY aj)) (ae (aB (i:=3) nd rfl (Or.inl rfl) ay)
   (ae (fi PassesOwn.never (aF j0 (bu dP (bu bq (pv 0) (pv 3) (λ_ _=>rfl)) ay (λ_ _=>rfl)) (cI C.fin) (aK _))
    (ae (aB (i:=4) nd rfl (Or.inl rfl) (bu bq (pv 0) (pv 3) (λ_ _=>rfl)))
    (ae (a7 (dc (aR cL mL jL aE (aa (pv 4) (aa (pv 2) (aa (pv 1) aj))))) (ag (aq xA)) aJ)
    (ae (lG (i:=3) nd rfl (Or.inl rfl) ay lJ)
    (ag (a7 (dc (aR cE mE jL aE (aa (pv 4) (aa (pv 2) aj)))) (ag (lG (i:=3) nd rfl (Or.inl rfl) (bu dP (pv 4) ay (λ_ _=>rfl)) lJ))
     (ag (aU (aR cD mD hr aE (aa (pv 4) (aa (pv 2) (aa (pv 1) aj)))))))))))
   ) (ag (aq (iU j0 (bu bq (pv 2) (rl kZ ay) (λ_ _=>rfl)) ay (aK _)))))),?_⟩
  refine⟨bw _,λl hl=>?_⟩;have s0:a9 H (upd H l (.lst [])):=λb o e=>by rw[ao (au e hl)];exact e
  refine eY (λσ H'=>∃(p:Nat) (st:List Nat) (ov:Option V),σ=[some (.ref a),some (.ref fr),some (.ref l),some (vN p),ov]/\H' l=some (.lst (om st))/\a9 H H'/\Goes b c (Sf84.Code.says c b) p st/\st.length=ht p/\p<c.length/\∀z∈st,z<Sf84.W)
   (λσ _=>c.length - intAt σ 3) ⟨0,[],none,rfl,af,s0,Zz b c,S.zero.symm,List.length_pos_iff.mpr S.ne,λz hz=>by simp at hz⟩ ?_ ?_
  ·rintro σ H1 ⟨p,st,ov,rfl,sI,sm,G,Zo,hp,hw⟩
   obtain⟨x,hx⟩:∃x,c[p]? =some x:=⟨_,bx hp⟩;have hc1:=hc.same sm;have SE:dI H1 fr b:=sm _ _ hb;obtain⟨r,hr0,Wq,qU⟩:=hc1.get hx;have St:=S.at_ p x hx;have hlf:l≠fr:=by
    intro q;rw[q]at hl;have:H fr=some _:=hb;rw[hl]at this;cases this
   refine⟨_,rfl,_,rfl,a,_,p,.ref r,rfl,rfl,bp.of hc1.lst,bW Wq,r,_,0,_,rfl,rfl,rB.of qU,Bm,rfl,_,rfl,eM (λh8=>?_) λh8=>?_⟩
   ·have YZ:x.1≠8:=by
     intro q;rw[q]at h8;cases h8
    obtain⟨h7,n2,n6,way⟩:=FI St Zo YZ hw hbW;refine⟨_,rfl,_,rfl,a,_,p,.ref r,rfl,rfl,bp.of hc1.lst,bW Wq,?_⟩;refine⟨_,rfl,_,rfl,_,rfl,r,l,fr,x,st,b,rfl,qU,sI,SE,n2,_,rfl,?_⟩;rcases way with⟨lk,es⟩|⟨lk,way⟩
    ·rw[lk];refine cu rfl ?_;have e:=G.says hx es;have k2:=k H1 sm;rw[e]at k2;exact k2
    ·rw[lk];refine cx az ?_;refine⟨_,rfl,_,_,rfl,rfl,_,rfl,_,rfl,r,l,x,st,rfl,qU,sI,n6,_,rfl,?_⟩;rcases way with⟨lv,es,e1,e2⟩|⟨lv,t,es,e1,e2,e3⟩
     ·rw[lv];refine cu rfl ?_;refine⟨_,rfl,_,rfl,r,_,1,_,rfl,rfl,rB.of qU,Jq,_,_,rfl,rfl,?_⟩;have ez:(p:Int)+1+(x.2:Int)=((p+1+x.2:Nat):Int):=by omega
      refine⟨⟨p+1+x.2,st,some (.ref r),?_,sI,sm,G.on hx es,e1,e2,hw⟩,?_⟩
      ·show [some (V.ref a),some (V.ref fr),some (V.ref l),some (V.int ((p:Int)+1+(x.2:Int))),some (V.ref r)]=_;rw[ez]
      ·show c.length - ((p:Int)+1+(x.2:Int)).toNat<c.length - ((p:Int)).toNat;omega
     ·rw[lv];refine cx az ?_;obtain⟨tt,uu,hn,_⟩:=St.tu;have hd:=St.deep;have hD:Sf84.DEEP=32:=rfl;refine⟨_,rfl,_,rfl,_,rfl,r,l,fr,x,st,t,b,rfl,qU,sI,SE,hlf,h7,⟨_,hn⟩,es,hw,by omega,lv,λH2 h2 k2=>?_⟩;have ez:(p:Int)+1=((p+1:Nat):Int):=by omega
      refine⟨⟨p+1,t,some (.ref r),?_,h2,λb' o e=>k2 b' o (sm b' o e) λq=>?_,G.on hx es,e1,e2,e3⟩,?_⟩
      ·show [some (V.ref a),some (V.ref fr),some (V.ref l),some (V.int ((p:Int)+1)),some (V.ref r)]=_;rw[ez]
      ·rw[q,hl]at e;cases e
      ·show c.length - ((p:Int)+1).toNat<c.length - ((p:Int)).toNat;omega
   ·have YZ:x.1=8:=by
     by_cases q:x.1=8
     ·exact q
     ·exfalso;apply h8;have e:=Gd x.1 8;rw[show((8:Nat):Int)=8 from rfl]at e;show(!decide (vN x.1=V.int 8))=true;rw[e];show(x.1 != 8)=true;simp[q]
    obtain⟨t,u,hn,T7,_⟩:=St.tu;obtain⟨rfl,rfl⟩:=DU hn YZ
    match st,sI,Zo,G with
    |[],_,Zo,_=>simp at Zo;omega
    |i::st,sI,Zo,G=>
     refine⟨_,rfl,_,rfl,l,_, -1,_,rfl,rfl,bp.of sI,yQ i st,rfl,?_⟩;have es:stepped b x (i::st)= .says (i != 0):=by
      obtain⟨k0,n0⟩:=x;dsimp only at YZ;subst YZ;rfl
     have e:=G.says hx es;have k2:=k H1 sm;rw[e]at k2;have e2:(!decide (V.int (i:Int)=V.int 0))=(i != 0):=Gd i 0;show Q (V.bl (!decide (V.int (i:Int)=V.int 0))) H1;rw[e2];exact k2
  ·intro σ H1 Q1 Q2 hq h;obtain⟨v1,e1,v2,e2,a1,xs1,i1,w1,q1,q2,q3,q4,a2,xs2,i2,w2,r1,r2,r3,r4,r5,z⟩:=h;obtain⟨z1,z2,z3⟩:=z;exact⟨v1,e1,v2,e2,a1,xs1,i1,w1,q1,q2,q3,q4,a2,xs2,i2,w2,r1,r2,r3,r4,r5,z1,z2,hq _ _ z3⟩
end
def cw:List Nat:=[0,0,1,0,0,0,0,0,0]
def b7:List Nat:=[18446744073709551615,0,8,6,5,0,18446744073709551615,18446744073709551615,0]
def bZ:List Nat:=[0,0,1,2,2,1,1,1,1]
def cq:List Int:=[1,1,0, -1, -1,0, -1, -1, -1]
def oV:Option Nat->V
 |some n=>vN n
 |none=>.dt
def JB(kn:Known):List V:=kn.map oV
structure So(K:Frag)(mg:Str->Option Value):Prop where
 most:GI mg "MOST_INSTRUCTIONS" 256
 vals:GI mg "MOST_VALUES" 32
 least:∃a,mg "LEAST"=some (.ref a)/\KT K a (cw.map vN)
 great:∃a,mg "GREATEST"=some (.ref a)/\KT K a (b7.map vN)
 taken:∃a,mg "TAKEN"=some (.ref a)/\KT K a (bZ.map vN)
 ab4:∃a,mg "GAINED"=some (.ref a)/\KT K a (cq.map V.int)
def F3(x:Nat×Nat)(h:Nat):Bool:=decide (x.1<9)&&(decide (cw.getD x.1 0<=x.2)&&(decide (x.2<=b7.getD x.1 0)&&decide (bZ.getD x.1 0<=h)))
theorem qI(x:Nat×Nat)(h:Nat):yt x (some h)=if F3 x h=true then some (h,(h+cq.getD x.1 0).toNat)else none:=by
 have hW:Sf84.W=18446744073709551616:=rfl;obtain⟨k,n⟩:=x;unfold yt F3 Sf84.needs;dsimp only
 match k with
 |0=>
  by_cases q:n<Sf84.W
  ·simp[q,cw,b7,bZ,cq]<;>omega
  ·simp[q,cw,b7,bZ,cq]<;>omega
 |1=>
  by_cases q:n=0
  ·simp[q,cw,b7,bZ,cq]
  ·simp[q,cw,b7,bZ,cq]
 |2=>
  by_cases q:1<=n/\n<=8
  ·by_cases q2:1<=h
   ·simp[q,q2,cw,b7,bZ,cq]<;>omega
   ·simp[q,q2,cw,b7,bZ,cq]
  ·simp[q,cw,b7,bZ,cq]<;>omega
 |3=>
  by_cases q:n<=6
  ·by_cases q2:2<=h
   ·simp[q,q2,cw,b7,bZ,cq]<;>omega
   ·simp[q,q2,cw,b7,bZ,cq]
  ·simp[q,cw,b7,bZ,cq]
 |4=>
  by_cases q:n<=5
  ·by_cases q2:2<=h
   ·simp[q,q2,cw,b7,bZ,cq]<;>omega
   ·simp[q,q2,cw,b7,bZ,cq]
  ·simp[q,cw,b7,bZ,cq]
 |5=>
  by_cases q:n=0
  ·by_cases q2:1<=h
   ·simp[q,q2,cw,b7,bZ,cq]<;>omega
   ·simp[q,q2,cw,b7,bZ,cq]
  ·simp[q,cw,b7,bZ,cq]
 |6=>
  by_cases q:n<Sf84.W
  ·by_cases q2:1<=h
   ·simp[q,q2,cw,b7,bZ,cq]<;>omega
   ·simp[q,q2,cw,b7,bZ,cq]
  ·simp[q,cw,b7,bZ,cq]<;>omega
 |7=>
  by_cases q:n<Sf84.W
  ·by_cases q2:1<=h
   ·simp[q,q2,cw,b7,bZ,cq]<;>omega
   ·simp[q,q2,cw,b7,bZ,cq]
  ·simp[q,cw,b7,bZ,cq]<;>omega
 |8=>
  by_cases q:n=0
  ·by_cases q2:1<=h
   ·simp[q,q2,cw,b7,bZ,cq]<;>omega
   ·simp[q,q2,cw,b7,bZ,cq]
  ·simp[q,cw,b7,bZ,cq]
 |k+9=>
  simp;intro q;omega
def kY(p:Nat)(x:Nat×Nat)(h g:Nat):List (Nat×Nat):=if x.1=8 then []else if x.1=6\/x.1=7 then [(p+1,g),(p+1+x.2,h)]else [(p+1,g)]
def ju:Known->List (Nat×Nat)->Option Known
 |kn,[]=>some kn
 |kn,y::r=>match way kn y.1 y.2 with
  |some k=>ju k r
  |none=>none
theorem Ny(p:Nat)(x:Nat×Nat)(h g:Nat)(kn:Known):vX p x h g kn=ju kn (kY p x h g):=by
 unfold vX kY;by_cases h8:x.1=8
 ·rw[ai h8,ai h8];rfl
 ·rw[ah h8,ah h8];by_cases hj:x.1=6\/x.1=7
  ·rw[ai hj];show _=(match way kn (p+1) g with|some k=>ju k [(p+1+x.2,h)]|none=>none);cases way kn (p+1) g with
   |none=>rfl
   |some k=>
    dsimp only;rw[ai hj];show _=(match way k (p+1+x.2) h with|some k=>some k|none=>none);cases way k (p+1+x.2) h<;>rfl
  ·rw[ah hj];show _=(match way kn (p+1) g with|some k=>some k|none=>none);cases way kn (p+1) g with
   |none=>rfl
   |some k=>
    dsimp only;rw[ah hj]
section
inductive LU(vs:List V)(H:Hp)(Q:VK)(_E:XK):Prop
 |mk (r:Addr) (x:Nat×Nat) (o:Option Nat):vs=[.ref r,oV o]->mi H r x->Q (.bl (yt x o).isSome) H->LU vs H Q _E
theorem Ks{l:List Nat}(h:k<l.length):(l.map vN)[k]? =some (vN (l.getD k 0)):=by
 rw[bO,bx h,List.getD_eq_getElem?_getD,bx h];rfl
theorem Al(F:bU K "can_be_done" "can_be_done" lj f fd)(C:So K mg)(hlen:mg "len"=none):aP P w K mg base aV 1 f fd ["instruction","found"] LU:=by
 refine F.ok o9 (λvs H Q E h=>?_) (λbG A outer s H vs Q E hr h=>?_)
 ·obtain⟨r,x,o,rfl,_⟩:=h;rfl
 ·obtain⟨r,x,o,rfl,hx,k⟩:=h;obtain⟨aT,mT,kT⟩:=C.taken;obtain⟨aL,mL,kL⟩:=C.least;obtain⟨aG,mG,kG⟩:=C.great;have nd:=o9.nd;refine⟨_,ae (aB (i:=2) nd rfl (Or.inl rfl) (bu dP (pv 0) ay (λ_ _=>rfl)))
   (ae (a7 (du (ij f_ oz ay (pv 2) (cb dv (by rfl) hlen PySem.boot_len (aa (BV mT) aj)))) (ag (aq xA)) aJ)
   (ae (a7 (du (ij f_ f_ (bu dP (BV mL) (pv 2) (λ_ _=>rfl)) (bu dP (pv 0) ay (λ_ _=>rfl)) (bu dP (BV mG) (pv 2) (λ_ _=>rfl)))) (ag (aq xA)) aJ)
   (ag (aq (Fc (J9 (qE (pv 1))) (zY (iU uy (pv 1) (bu dP (BV mT) (pv 2) (λ_ _=>rfl)) (aK _)))))))),?_⟩
  refine⟨_,rfl,r,_,0,_,rfl,rfl,rB.of hx,Bm,?_⟩;refine⟨_,rfl,_,_,rfl,rfl,_,rfl,cu (by show decide ((0:Int)<=(x.1:Int))=true;exact aN (by omega)) ?_⟩;refine⟨aT,_,rfl,.inr kT.sq,_,_,rfl,rfl,_,rfl,?_⟩;have none_of:(∀h,F3 x h=false)->yt x o=none:=by
   intro hf;cases o with
   |none=>rfl
   |some h=>
    rw[qI,hf h];rfl
  refine eM (λh9=>?_) λh9=>?_
  ·have Xw:¬x.1<9:=by
    intro q;have:decide ((x.1:Int)<((bZ.map vN).length:Int))=true:=aN (by show(x.1:Int)<9;omega);rw[this]at h9;cases h9
   have e:=none_of λh=>by unfold F3;rw[aQ Xw];rfl
   rw[e]at k;exact k
  ·have Xw:x.1<9:=by
    by_cases q:x.1<9
    ·exact q
    ·exfalso;apply h9;have:decide ((x.1:Int)<((bZ.map vN).length:Int))=false:=aQ (by show ¬(x.1:Int)<9;omega);rw[this];rfl
   refine⟨_,rfl,aL,_,x.1,_,rfl,rfl,kL.sq,bW (Ks Xw),_,rfl,r,_,1,_,rfl,rfl,rB.of hx,Jq,_,_,rfl,rfl,_,rfl,?_⟩;refine eM (λhl=>?_) λhl=>?_
   ·have hl':cw.getD x.1 0<=x.2:=by
     have:=cj hl;omega
    refine⟨_,rfl,aG,_,x.1,_,rfl,rfl,kG.sq,bW (Ks Xw),_,_,rfl,rfl,_,rfl,?_⟩;refine eM (λhg=>?_) λhg=>?_
    ·have Zr:¬x.2<=b7.getD x.1 0:=by
      intro q;have:decide ((x.2:Int)<=((b7.getD x.1 0:Nat):Int))=true:=aN (by omega);rw[this]at hg;cases hg
     have e:=none_of λh=>by unfold F3;rw[aQ Zr];simp
     rw[e]at k;exact k
    ·have Zr:x.2<=b7.getD x.1 0:=by
      by_cases q:x.2<=b7.getD x.1 0
      ·exact q
      ·exfalso;apply hg;have:decide ((x.2:Int)<=((b7.getD x.1 0:Nat):Int))=false:=aQ (by omega);rw[this];rfl
     cases o with
     |none=>exact⟨_,rfl,_,rfl,cx az k⟩
     |some h=>
      refine⟨_,rfl,_,rfl,cu rfl ?_⟩;refine⟨_,rfl,_,rfl,aT,_,x.1,_,rfl,rfl,kT.sq,bW (Ks Xw),_,_,rfl,rfl,?_⟩;have e:decide (((bZ.getD x.1 0:Nat):Int)<=(h:Int))=(yt x (some h)).isSome:=by
       rw[qI];unfold F3;rw[aN Xw,aN hl',aN Zr];by_cases q:bZ.getD x.1 0<=h
       ·rw[aN q,aN (by omega)];rfl
       ·rw[aQ q,aQ (by omega)];rfl
      show Q (V.bl (decide (((bZ.getD x.1 0:Nat):Int)<=(h:Int)))) H;rw[e];exact k
   ·have hl':¬cw.getD x.1 0<=x.2:=by
     intro q;apply hl;exact aN (by omega)
    have e:=none_of λh=>by unfold F3;rw[aQ hl'];simp
    rw[e]at k;exact⟨_,rfl,cu rfl k⟩
end
section
inductive EH(vs:List V)(H:Hp)(Q:VK)(_E:XK):Prop
 |mk (p:Nat) (r:Addr) (x:Nat×Nat) (h g:Nat):vs=[vN p,.ref r,vN h]->mi H r x->yt x (some h)=some (h,g)->(∀(H':Hp) (a:Addr) (rs:List Addr),H a=none->a9 H H'->bC H' a (kY p x h g) rs->Q (.ref a) H')->EH vs H Q _E
theorem bC.nil(h:H a=some (.lst [])):bC H a [] []:=⟨h,rfl,λi r x e=>by simp at e⟩
theorem Ug(h:k<9):(cq.map V.int)[k]? =some (.int (cq.getD k 0)):=by
 have h':k<cq.length:=h;rw[bO,bx h',List.getD_eq_getElem?_getD,bx h'];rfl
theorem O8{x:Nat×Nat}{h:Nat}(e:yt x (some h)=some (h,g)):x.1<9/\(h:Int)+cq.getD x.1 0=(g:Int):=by
 rw[qI]at e;by_cases f:F3 x h=true
 ·rw[ai f]at e;have f':=f;unfold F3 at f';rw[bj,bj,bj,aI,aI,aI,aI]at f';obtain⟨f1,f2,f3,f4⟩:=f';have e2:(h+cq.getD x.1 0).toNat=g:=by
   have:=aO e;exact congrArg Prod.snd this
  have nn:0<=(h:Int)+cq.getD x.1 0:=by
   have:∀k<9, -(bZ.getD k 0:Int)<=cq.getD k 0:=by decide
   have:=this x.1 f1;omega
  exact⟨f1,by omega⟩
 ·rw[ah f]at e;cases e
theorem Kd(F:bU K "ways_on" "ways_on" qC f fd)(C:So K mg)(I:tj mg):aP P w K mg base aV 1 f fd ["place","instruction","found"] EH:=by
 refine F.ok zw (λvs H Q E h=>?_) (λbG A outer s H vs Q E hr h=>?_)
 ·obtain⟨p,r,x,h,g,rfl,_⟩:=h;rfl
 ·obtain⟨p,r,x,h,g,rfl,hx,ha,k⟩:=h;obtain⟨aG,mG,kG⟩:=C.ab4;obtain⟨h9,hg⟩:=O8 ha;have nd:=zw.nd;refine⟨_,ae (aB (i:=3) nd rfl (Or.inl rfl) (bu dP (pv 1) ay (λ_ _=>rfl)))
   (ae (a7 (aF dg (pv 3) (cI I.fin) (aK _)) (ag (aq (aY aj))) aJ)
   (ae (aB (i:=4) nd rfl (Or.inl rfl) (aY (aa (jn (aa (bb ck (pv 0) ay) (aa (bb ck (pv 2) (bu dP (BV mG) (pv 3) (λ_ _=>rfl))) aj))) aj)))
   (ae (a7 (PW.pt (jb (aF dg (pv 3) (cI I.no) (aK _)) (lF (aF dg (pv 3) (cI I.yes) (aK _)))))
    (ag (aU (lZ PySem.F.plainAttrs_list PySem.F.slot_list_append PySem.F.type_list_append eA (pv 4) (aa (jn (aa (bb ck (bb ck (pv 0) ay) (bu dP (pv 1) ay (λ_ _=>rfl))) (aa (pv 2) aj))) aj)))) aJ)
   (ag (aq (pv 4)))))),?_⟩
  refine⟨_,rfl,r,_,0,_,rfl,rfl,rB.of hx,Bm,_,rfl,rfl,_,rfl,eM (λh8=>?_) λh8=>?_⟩
  ·have h8':x.1=8:=by
    have:=cj h8;injection this with q
    omega
   refine⟨bw _,λl hl=>?_⟩;refine k _ l [] hl (λb o e=>by rw[ao (au e hl)];exact e) ?_;have e:kY p x h g=[]:=ai h8';rw[e];exact bC.nil af
  ·have h8':¬x.1=8:=by
    intro q;apply h8;rw[q];exact aN rfl
   refine⟨_,rfl,_,_,rfl,rfl,_,rfl,_,rfl,aG,_,x.1,_,rfl,rfl,kG.sq,bW (Ug h9),_,_,rfl,rfl,(by show 2<=sizeLine;decide),λt1 T7=>?_⟩;refine⟨(by show 1<=sizeLine;decide),λl hl=>?_⟩;have e1:(p:Int)+1=((p+1:Nat):Int):=by omega
   have hT1:(upd H t1 (.tup [V.int ((p:Int)+1),V.int ((h:Int)+cq.getD x.1 0)])) t1=some (.tup [vN (p+1),vN g]):=by
    rw[af,e1,hg]
   have s1:a9 H (upd H t1 (.tup [V.int ((p:Int)+1),V.int ((h:Int)+cq.getD x.1 0)])):=λb o e=>by rw[ao (au e T7)];exact e
   have s2:a9 (upd H t1 (.tup [V.int ((p:Int)+1),V.int ((h:Int)+cq.getD x.1 0)])) (upd (upd H t1 (.tup [V.int ((p:Int)+1),V.int ((h:Int)+cq.getD x.1 0)])) l (.lst [.ref t1])):=λb o e=>by rw[ao (au e hl)];exact e
   have Zk:H l=none:=s1.free hl;have stays:=s1.trans s2;have hx2:=stays _ _ hx;have done:∀(ZR:¬(x.1=6\/x.1=7)),Q (.ref l) (upd (upd H t1 (.tup [V.int ((p:Int)+1),V.int ((h:Int)+cq.getD x.1 0)])) l (.lst [.ref t1])):=by
    intro ZR;refine k _ l [t1] Zk stays ?_;have e:kY p x h g=[(p+1,g)]:=by unfold kY;rw[ah h8',ah ZR]
    rw[e];refine⟨af,rfl,λi r' y e1 e2=>?_⟩
    match i,e1,e2 with
    |0,e1,e2=>
     cases e1;cases e2;exact s2 _ _ hT1
    |i+1,e1,_=>simp at e1
   have more:∀(ZR:x.1=6\/x.1=7),P4 (tBM (CS aV P w K mg base ["place","instruction","found","code","ways"] "ways_on" (ak qC) f bG A outer s H E).Mf.K "list" qD (dJ 4) (d5 (Vp (d5 (Hf (zS λi j=>.int (i+j)) (Hf (zS λi j=>.int (i+j)) (dJ 0) (tC (.int 1))) (Hf (VI K) (dJ 1) (tC (.int 1)))) (d5 (dJ 2) gj))) gj))
     {nx:=vy (dJ 4) {nx:=λ_ H'=>Q .dt H',rt:=Q},rt:=Q} [some (vN p),some (.ref r),some (vN h),some (vN x.1),some (.ref l)] (upd (upd H t1 (.tup [V.int ((p:Int)+1),V.int ((h:Int)+cq.getD x.1 0)])) l (.lst [.ref t1])):=by
    intro ZR;refine⟨_,rfl,.inl ⟨rfl,_,bp.of af⟩,_,rfl,_,_,rfl,rfl,_,rfl,r,_,1,_,rfl,rfl,rB.of hx2,Jq,_,_,rfl,rfl,_,rfl,(by show 2<=sizeLine;decide),λt2 ht2=>?_⟩;have Zg:l≠t2:=au af ht2;refine⟨l,_,_,rfl,rfl,by rw[ao Zg];exact af,(by show 1<sizeLine;decide),?_⟩;refine⟨_,rfl,?_⟩;have s3:a9 H _:=stays.trans (λb o e=>show(upd _ t2 (.tup [V.int ((p:Int)+1+(x.2:Int)),vN h])) b=some o by rw[ao (au e ht2)];exact e);have e3:(p:Int)+1+(x.2:Int)=((p+1+x.2:Nat):Int):=by omega
    refine k _ l [t1,t2] Zk (λb o e=>?_) ?_
    ·have hb:b≠l:=au e Zk;rw[ao hb];exact s3 _ _ e
    ·have e:kY p x h g=[(p+1,g),(p+1+x.2,h)]:=by unfold kY;rw[ah h8',ai ZR]
     rw[e];have abM:t1≠l:=au hT1 hl;refine⟨af,rfl,λi r' y e1 e2=>?_⟩
     match i,e1,e2 with
     |0,e1,e2=>
      cases e1;cases e2;have:t1≠t2:=au (s2 _ _ hT1) ht2;show(upd _ l _) t1=_;rw[ao abM,ao this];exact s2 _ _ hT1
     |1,e1,e2=>
      cases e1;cases e2;show(upd _ l _) t2=_;rw[ao (Ne.symm Zg),af];show some (HO.tup [V.int ((p:Int)+1+(x.2:Int)),vN h])=_;rw[e3]
     |i+2,e1,_=>simp at e1
   refine⟨_,rfl,rfl,_,rfl,eM (λh6=>?_) λh6=>?_⟩
   ·refine cu rfl (more (.inl ?_));have:=cj h6;injection this with q
    omega
   ·refine⟨_,rfl,rfl,_,rfl,eM (λh7=>?_) λh7=>?_⟩
    ·refine more (.inr ?_);have:=cj h7;injection this with q
     omega
    ·refine⟨_,rfl,done ?_⟩
     rintro(q|q)
     ·apply h6;rw[q];exact aN rfl
     ·apply h7;rw[q];exact aN rfl
end
section
inductive ET(vs:List V)(H:Hp)(Q:VK)(_E:XK):Prop
 |mk (a k:Addr) (ws:List (Nat×Nat)) (rs:List Addr) (kn:Known):vs=[.ref a,.ref k]->bC H a ws rs->H k=some (.lst (JB kn))->a≠k->((∀r∈rs,r≠k))->(∀H':Hp,(∀b o,H b=some o->b≠k->H' b=some o)->(∀kn',ju kn ws=some kn'->H' k=some (.lst (JB kn')))->Q (.bl (ju kn ws).isSome) H')->ET vs H Q _E
theorem FT(kn:Known):(JB kn).length=kn.length:=by unfold JB;rw[aH]
theorem AQ{kn:Known}{q:Nat}{o:Option Nat}(h:kn[q]? =some o):(JB kn)[q]? =some (oV o):=by
 unfold JB;rw[bO,h];rfl
theorem Ml(kn:Known)(q v:Nat):(JB kn).set q (vN v)=JB (kn.set q (some v)):=by
 unfold JB;rw[List.map_set];rfl
theorem FV(h:q<n):Pw n (q:Int)=some q:=by
 unfold Pw;rw[ai (by omega),ai (by omega),Int.toNat_natCast]
theorem yf(F:bU K "goes_on_well" "goes_on_well" jU f fd)(C:So K mg)(hlen:mg "len"=none):aP P w K mg base aV 1 f fd ["ways","known"] ET:=by
 refine F.ok oq (λvs H Q E h=>?_) (λbG A outer s H vs Q E hr h=>?_)
 ·obtain⟨a,k,ws,rs,kn,rfl,_⟩:=h;rfl
 ·obtain⟨a,kA,ws,rs,kn,rfl,hc,hk,hak,hrk,k⟩:=h;have nd:=oq.nd;refine⟨_,ae (gF PassesOwn.never rfl (dG (pv 0)) (QA rfl (uv (bR (i:=2) nd rfl (Or.inl rfl)) (uv (bR (i:=3) nd rfl (Or.inl rfl)) Ma)))
   (ae (a7 (PW.pt (jb (aF uy (pv 2) (cb dv (by rfl) hlen PySem.boot_len (aa (pv 1) aj)) (aK _)) (lF (aF ux (pv 3) (cI C.vals) (aK _))))) (ag (aq xA)) aJ)
   (ae (a7 (jm (vR (bu bq (pv 1) (pv 2) (λ_ _=>rfl)))) (ag (zU (pv 3) (zX (pv 1) (pv 2) set_list))) aJ)
   (ag (a7 (aF j0 (bu bq (pv 1) (pv 2) (λ_ _=>rfl)) (pv 3) (aK _)) (ag (aq xA)) aJ)))))
   (ag (aq xA)),?_⟩
  refine⟨_,rfl,a,rfl,⟨_,bp.of hc.lst⟩,je (K:=K) (a:=a) (xs:=rs.map V.ref) (λi σ H'=>∃(v1 v2:Option V) (k1:Known),σ=[some (.ref a),some (.ref kA),v1,v2]/\H' kA=some (.lst (JB k1))/\(∀b o,H b=some o->b≠kA->H' b=some o)/\ju kn ws=ju k1 (ws.drop i))
   ⟨none,none,kn,rfl,hk,λ_ _ e _=>e,rfl⟩ (λi σ H' _ ⟨_,_,_,_,_,st,_⟩=>bp.of (st _ _ hc.lst hak)) ?_ ?_⟩
  ·rintro i y σ H1 hi ⟨v1,v2,k1,rfl,Wy,st,eg⟩
   obtain⟨r,Xo,rfl⟩:∃r,rs[i]? =some r/\y=V.ref r:=by
    rw[bO]at hi;cases e:rs[i]? with
    |none=>rw[e]at hi;cases hi
    |some r=>rw[e]at hi;exact⟨r,rfl,(aO hi).symm⟩
   have hiw:i<ws.length:=by
    have:=(List.getElem?_eq_some_iff.mp Xo).1;have:=hc.len;omega
   have hx:ws[i]? =some ws[i]:=bx hiw;have qU:=st _ _ (hc.at_ i r _ Xo hx) (hrk r (d7 Xo));have ed:ws.drop i=ws[i]::ws.drop (i+1):=eT hiw;rw[ed]at eg;revert qU eg;generalize ws[i]=x;intro eg qU;have eg2:ju k1 (x::ws.drop (i+1))=(match way k1 x.1 x.2 with|some k=>ju k (ws.drop (i+1))|none=>none):=rfl;have fails:way k1 x.1 x.2=none->∀H2:Hp,(∀b o,H b=some o->b≠kA->H2 b=some o)->Q (.bl false) H2:=by
    intro e H2 h2;have e0:ju kn ws=none:=by rw[eg,eg2,e]
    have:=k H2 h2 (λkn' q=>by rw[e0]at q;cases q);rw[e0]at this;exact this
   have go:∀k2,way k1 x.1 x.2=some k2->ju kn ws=ju k2 (ws.drop (i+1)):=λk2 e=>by rw[eg,eg2,e]
   refine⟨r,_,rfl,rB.of qU,rfl,_,_,rfl,_,_,rfl,rfl,?_⟩;refine⟨_,rfl,_,rfl,kA,_,rfl,.inl (bp.of Wy),_,_,rfl,rfl,_,rfl,?_⟩;have hD:Sf84.DEEP=32:=rfl;refine eM (λZq=>?_) λZq=>?_
   ·have h1:k1.length<=x.1:=by
     have:=cj Zq;rw[FT]at this;omega
    refine cu rfl ?_;exact fails (ai (.inl h1)) H1 st
   ·have h1:x.1<k1.length:=by
     by_cases q:x.1<k1.length
     ·exact q
     ·exfalso;apply Zq;refine aN ?_;rw[FT];omega
    refine⟨_,rfl,_,_,rfl,rfl,_,rfl,eM (λKN=>?_) λKN=>?_⟩
    ·have h2:Sf84.DEEP<x.2:=by
      have:=cj KN;omega
     exact fails (ai (.inr h2)) H1 st
    ·have h2:¬Sf84.DEEP<x.2:=by
      intro q;apply KN;exact aN (by omega)
     have hq:k1[x.1]? =some k1[x.1]:=bx h1;refine⟨_,rfl,_,rfl,kA,_,x.1,_,rfl,rfl,bp.of Wy,bW (AQ hq),_,rfl,?_⟩;cases ho:k1[x.1]with
     |none=>
      refine cu rfl ?_;have N_:k1[x.1]? =some none:=by rw[hq,ho]
      have ew:way k1 x.1 x.2=some (k1.set x.1 (some x.2)):=by
       unfold way;rw[ah (by omega),N_]
      refine⟨_,rfl,_,rfl,_,rfl,kA,_,x.1,x.1,rfl,rfl,Wy,FV (by rw[FT];exact h1),?_⟩;rw[Ml];have hk2:(upd H1 kA (.lst (JB (k1.set x.1 (some x.2))))) kA=some (.lst (JB (k1.set x.1 (some x.2)))):=af;refine⟨_,rfl,_,rfl,kA,_,x.1,_,rfl,rfl,bp.of hk2,bW (AQ (gr h1)),_,rfl,rfl,_,rfl,?_⟩;refine cx (by show ¬(!decide (vN x.2=vN x.2))=true;simp) ?_;exact⟨_,_,_,rfl,hk2,λb o e hb=>by rw[ao hb];exact st b o e hb,go _ ew⟩
     |some v=>
      refine cx az ?_;have N_:k1[x.1]? =some (some v):=by rw[hq,ho]
      refine⟨_,rfl,_,rfl,kA,_,x.1,_,rfl,rfl,bp.of Wy,bW (AQ N_),_,rfl,rfl,_,rfl,?_⟩;refine eM (λfR=>?_) λfR=>?_
      ·have hv:¬v=x.2:=by
        intro q;rw[q]at fR;revert fR;show(!decide (vN x.2=vN x.2))=true->_;simp
       refine fails ?_ H1 st;unfold way;rw[ah (by omega),N_];dsimp only;rw[ah hv]
      ·have hv:v=x.2:=by
        by_cases q:v=x.2
        ·exact q
        ·exfalso;apply fR;show(!decide (V.int (v:Int)=V.int (x.2:Int)))=true;rw[W4,aQ q];rfl
       have ew:way k1 x.1 x.2=some k1:=by
        unfold way;rw[ah (by omega),N_];dsimp only;rw[ai hv]
       exact⟨_,_,_,rfl,Wy,st,go _ ew⟩
  ·rintro σ H1 ⟨v1,v2,k1,rfl,Wy,st,eg⟩
   have e:ju kn ws=some k1:=by
    rw[eg,aH,hc.len,List.drop_length];rfl
   have:=k H1 st (λkn' q=>by rw[e]at q;cases q;exact Wy);rw[e]at this;exact this
end
theorem RH{g:TG}{tb:TS}{D:Ends}{σ:L2.St}(Pv:Nat->L2.St->Hp->Prop)(h0:Pv 0 σ H)(hl:∀i σ H,i<=xs.length->Pv i σ H->bp K H a xs)
  (hs:∀i x σ H T,xs[i]? =some x->Pv i σ H->H T=none->g (.ref T) σ (upd H T (.tup [.int (i:Nat),x])) λσ2 H2=>tb {D with nx:=Pv (i+1),ct:=Pv (i+1),bk:=D.nx} σ2 H2) (hd:∀σ H,Pv xs.length σ H->D.nx σ H):
  ∃W:Nat->Nat->L2.St->Hp->Prop,(∃m,W 0 m σ H)/\∀i m σ H,W i m σ H->
   ((Z3 K a).stop i H/\D.nx σ H)\/((Z3 K a).go i H/\∃N:L2.St->Hp->Prop,(∀σ' H',N σ' H'->∃m',m'<m/\W (i+1) m' σ' H')/\∀x H',(Z3 K a).Pk i H x H'->g x σ H' λσ2 H2=>tb {D with nx:=N,ct:=N,bk:=D.nx} σ2 H2):=by
 refine⟨λi m σ H=>m=xs.length - i/\i<=xs.length/\Pv i σ H,⟨xs.length,by simp,bw _,h0⟩,?_⟩
 rintro i m σ H ⟨rfl,hi,p⟩
 by_cases he:i=xs.length
 ·subst he;exact .inl ⟨⟨xs,hl _ σ H (aM _) p,aM _⟩,hd σ H p⟩
 ·have eP:i<xs.length:=by omega
  have hx:xs[i]? =some xs[i]:=bx eP;refine .inr ⟨⟨xs,_,hl i σ H hi p,hx⟩,Pv (i+1),λσ' H' q=>⟨xs.length - (i+1),by omega,rfl,eP,q⟩,?_⟩
  rintro x H' ⟨T,y,rfl,hT,rfl,hy⟩
  have e:=hy xs (hl i σ H hi p);exact hs i y σ H T e p hT
theorem rJ{A B:Hp->Prop}(h:A H):Vo σ H (λb H3=>if b=true then A H3 else B H3):=by
 show(if true=true then A H else B H);rw[ai rfl];exact h
section
def lL(c:Sf84.Code):Int:=match Sf84.fault c with
 |some p=>(p:Int)
 |none=> -1
inductive tQ(vs:List V)(H:Hp)(Q:VK)(_E:XK):Prop
 |mk (a:Addr) (c:Sf84.Code) (rs:List Addr):vs=[.ref a]->bC H a c rs->(∀H':Hp,a9 H H'->Q (.int (lL c)) H')->tQ vs H Q _E
theorem Ac(F:bU K "wrong_place" "wrong_place" k7 f fd)(C:So K mg)(hlen:mg "len"=none)(hen:mg "enumerate"=none)
  (mC:mg "can_be_done"=some (.ref fC)) (cC:Calls aV P w K mg fC 1 LU) (mW:mg "ways_on"=some (.ref fW)) (cW:Calls aV P w K mg fW 1 EH) (mG:mg "goes_on_well"=some (.ref fG)) (cG:Calls aV P w K mg fG 1 ET):
  aP P w K mg base aV 2 f fd ["program"] tQ:=by
 refine F.ok o6 (λvs H Q E h=>?_) (λbG A outer s H vs Q E hr h=>?_)
 ·obtain⟨a,c,rs,rfl,_⟩:=h;rfl
 ·obtain⟨a,c,rs,rfl,hc,k⟩:=h;have nd:=o6.nd;refine⟨_,ae (a7 (aF ux (cb dv (by rfl) hlen PySem.boot_len (aa (pv 0) aj)) (cI C.most) (aK _)) (ag (aq (cI C.most))) aJ)
   (ae (a7 (aF dg (cb dv (by rfl) hlen PySem.boot_len (aa (pv 0) aj)) ay (aK _)) (ag (aq ay)) aJ)
   (ae (zT (i:=1) (own:=[("instruction",3)]) rfl nd rfl rfl (EC rfl rfl rfl rfl) (dG (pv 0)) (eO rfl) (λs H C cl fp=>bR (i:=3) nd rfl (Or.inl rfl)) (λs H C cl fp=>iT) (λs H C cl fp=>gG))
   (ae (zU ay (zX (pv 1) ay set_list))
   (ae (gF PassesOwn.never rfl (Tn rfl hen (aa (pv 0) aj)) (QA rfl (uv (bR (i:=2) nd rfl (Or.inl rfl)) (uv (bR (i:=3) nd rfl (Or.inl rfl)) Ma)))
    (ae (a7 (du (dc (aR cC mC hr aE (aa (pv 3) (aa (bu bq (pv 1) (pv 2) (λ_ _=>rfl)) aj))))) (ag (aq (pv 2))) aJ)
    (ag (a7 (du (dc (aR cG mG hr aE (aa (aR cW mW hr aE (aa (pv 2) (aa (pv 3) (aa (bu bq (pv 1) (pv 2) (λ_ _=>rfl)) aj)))) (aa (pv 1) aj))))) (ag (aq (pv 2))) aJ))))
   (ag (aq (rl kZ ay))))))),?_⟩
  have hM:Sf84.MOST=256:=rfl;have Ua:(rs.map V.ref).length=c.length:=by rw[aH];exact hc.len
  refine⟨_,rfl,a,_,rfl,.inl (bp.of hc.lst),_,_,rfl,rfl,_,rfl,eM (λKN=>?_) λKN=>?_⟩
  ·have h1:Sf84.MOST<c.length:=by
    have:=cj KN;rw[Ua]at this;omega
   have e:lL c=256:=by
    unfold lL;rw[wI,ai h1];rfl
   have:=k H (a9.refl H);rw[e]at this;exact this
  have h1:¬Sf84.MOST<c.length:=by
   intro q;apply KN;refine aN ?_;rw[Ua];omega
  refine⟨_,rfl,a,_,rfl,.inl (bp.of hc.lst),rfl,_,rfl,eM (λheq=>?_) λheq=>?_⟩
  ·have h0:c.length=0:=by
    have:=cj heq;injection this with q
    rw[Ua]at q;omega
   have e:lL c=0:=by
    unfold lL;rw[wI,ah h1,ai h0];rfl
   have:=k H (a9.refl H);rw[e]at this;exact this
  have h0:¬c.length=0:=by
   intro q;apply heq;refine aN ?_;rw[Ua,q];rfl
  have ef:Sf84.fault c=OR (known0 c.length) 0 c:=by rw[wI,ah h1,ah h0]
  refine⟨_,rfl,a,rfl,⟨_,bp.of hc.lst⟩,λD hD=>nV (K:=K) (a:=a) (xs:=rs.map V.ref) (λi H'=>H' D=some (.lst (List.replicate i V.dt))/\a9 H H')
   ⟨af,λb o e=>by rw[ao (au e hD)];exact e⟩ (λi H' _ ⟨_,sm⟩=>bp.of (sm _ _ hc.lst)) ?_ ?_⟩
  ·rintro i x H1 hi ⟨hl,sm⟩
   refine⟨rfl,rJ ?_⟩;refine⟨_,hl,?_,?_,λb o e=>?_⟩
   ·have:=(List.getElem?_eq_some_iff.mp hi).1;rw[jx];exact zt (by omega)
   ·rw[af,<-List.replicate_succ']
   ·have:b≠D:=au e hD;rw[ao this];exact sm b o e
  ·rintro H1 ⟨hl,sm⟩
   rw[Ua]at hl;have e0:(List.replicate c.length V.dt).set 0 (V.int 0)=JB (known0 c.length):=by
    unfold known0;have:=Ml (List.replicate c.length none) 0 0;rw[<-this];unfold JB;rw[List.map_replicate];rfl
   refine⟨_,rfl,D,_,0,0,rfl,rfl,hl,FV (q:=0) (by rw[jx];omega),?_⟩;rw[e0];have sm1:a9 H (upd H1 D (.lst (JB (known0 c.length)))):=λb o e=>by
    have:b≠D:=au e hD;rw[ao this];exact sm b o e
   refine⟨_,rfl,a,_,rfl,bp.of (sm1 _ _ hc.lst),RH (K:=K) (a:=a) (xs:=rs.map V.ref) (λi σ H'=>∃(v2 v3:Option V) (kn:Known),σ=[some (.ref a),some (.ref D),v2,v3]/\H' D=some (.lst (JB kn))/\kn.length=c.length/\a9 H H'/\Sf84.fault c=OR kn i (c.drop i))
    ⟨none,none,_,rfl,af,by simp[known0],sm1,ef⟩ (λi σ H' _ ⟨_,_,_,_,_,_,sm,_⟩=>bp.of (sm _ _ hc.lst)) ?_ ?_⟩
   ·rintro i y σ H2 T hi ⟨v2,v3,kn,rfl,hk,hkl,Ya,K7⟩ hT
    obtain⟨r,Xo,rfl⟩:∃r,rs[i]? =some r/\y=V.ref r:=by
     rw[bO]at hi;cases e:rs[i]? with
     |none=>rw[e]at hi;cases hi
     |some r=>rw[e]at hi;exact⟨r,rfl,(aO hi).symm⟩
    have hic:i<c.length:=by
     have:=(List.getElem?_eq_some_iff.mp Xo).1;have:=hc.len;omega
    have hx:c[i]? =some c[i]:=bx hic;have qU:mi H r c[i]:=hc.at_ i r _ Xo hx;have ed:c.drop i=c[i]::c.drop (i+1):=eT hic;rw[ed]at K7;revert K7 qU;generalize c[i]=x;intro K7 qU;have sT:a9 H2 (upd H2 T (.tup [.int (i:Nat),.ref r])):=λb o e=>by rw[ao (au e hT)];exact e
    have hk3:=sT _ _ hk;have sm3:a9 H _:=Ya.trans sT;have hkq:kn[i]? =some kn[i]:=bx (by omega);have Zm:(kn[i]?).join=kn[i]:=by rw[hkq];rfl
    refine⟨T,_,rfl,rB.of af,rfl,_,_,rfl,_,_,rfl,rfl,?_⟩;refine⟨_,rfl,_,rfl,_,rfl,D,_,i,_,rfl,rfl,bp.of hk3,bW (AQ hkq),?_⟩;refine⟨r,x,kn[i],rfl,sm3 _ _ qU,_,rfl,?_⟩;have wr:∀H3:Hp,a9 H H3->Sf84.fault c=some i->Q (vN i) H3:=by
     intro H3 s3 e;have:=k H3 s3;unfold lL at this;rw[e]at this;exact this
    have ach:OR kn i (x::c.drop (i+1))=(match yt x (kn[i]?).join with|none=>some i|some (h,g)=>match vX i x h g kn with|none=>some i|some k=>OR k (i+1) (c.drop (i+1))):=rfl;rw[ach,Zm]at K7;cases SG:yt x kn[i]with
    |none=>
     rw[SG]at K7;refine cu rfl ?_;exact⟨_,rfl,wr _ sm3 K7⟩
    |some hg=>
     obtain⟨h,g⟩:=hg;rw[SG]at K7;dsimp only at K7;refine cx az ?_;cases hkn:kn[i]with
     |none=>rw[hkn]at SG;cases SG
     |some h'=>
      rw[hkn]at SG hkq;have ehh:h'=h:=by
       rw[qI]at SG;split at SG
       ·have:=aO SG;exact congrArg Prod.fst this
       ·cases SG
      subst ehh;rw[Ny]at K7;refine⟨_,rfl,_,rfl,_,rfl,_,rfl,D,_,i,_,rfl,rfl,bp.of hk3,bW (AQ hkq),?_⟩;refine⟨i,r,x,h',g,rfl,sm3 _ _ qU,SG,λH4 aw rws hnw s4 hcw=>?_⟩;have hk4:=s4 _ _ hk3;refine⟨_,rfl,aw,D,_,rws,kn,rfl,hcw,hk4,(Ne.symm (au hk3 hnw)),λr' Py q=>?_,λH5 UH k5=>?_⟩
      ·obtain⟨j,hj⟩:=List.mem_iff_getElem?.mp Py;have hjw:j<(kY i x h' g).length:=by
        have:=(List.getElem?_eq_some_iff.mp hj).1;have:=hcw.len;omega
       have:=hcw.at_ j r' _ hj (bx hjw);rw[q]at this;have this:H4 D=some _:=this;rw[hk4]at this;cases this
      ·have sm5:a9 H H5:=λb o e=>by
        have:b≠D:=au e hD;exact UH b o (s4 _ _ (sm3 _ _ e)) this
       refine⟨_,rfl,?_⟩;cases hgo:ju kn (kY i x h' g)with
       |none=>
        rw[hgo]at K7;refine cu rfl ?_;exact⟨_,rfl,wr _ sm5 K7⟩
       |some k2=>
        rw[hgo]at K7;refine cx az ?_;have oJ:k2.length=c.length:=by
         have gen:∀(ws:List (Nat×Nat)) (k1 k2:Known),ju k1 ws=some k2->k2.length=k1.length:=by
          intro ws
          induction ws with
          |nil=>intro k1 k2 e;cases e;rfl
          |cons y ws ih=>
           intro k1 k2 e;have e':(match way k1 y.1 y.2 with|some k=>ju k ws|none=>none)=some k2:=e;cases ew:way k1 y.1 y.2 with
           |none=>rw[ew]at e';cases e'
           |some k3=>
            rw[ew]at e';have:=ih k3 k2 e';have hw3:k3.length=k1.length:=by
             unfold way at ew;split at ew
             ·cases ew
             ·split at ew
              ·split at ew
               ·cases ew;rfl
               ·cases ew
              ·cases ew;rw[List.length_set]
            omega
         rw[gen _ _ _ hgo,hkl]
        exact⟨_,_,k2,rfl,k5 k2 hgo,oJ,sm5,K7⟩
   ·rintro σ H2 ⟨v2,v3,kn,rfl,hk,hkl,Ya,K7⟩
    have e:lL c= -1:=by
     unfold lL;rw[K7,Ua,List.drop_length];rfl
    have:=k H2 Ya;rw[e]at this;exact⟨_,rfl,this⟩
end
structure Makes(P:Program)(w:World)(K:Frag)(mg:Str->Option Value)(C:Addr)(k:Nat)(sp:Sp):Prop where
 ex:∃(fI:Addr) (fd:FuncData) (ps:List Str),Mk K C fI/\(∀base,aP P w K mg base aV k fI fd ps sp)/\Binds K fd ps []
theorem kO{X:Cx}{p:Pos}{e:Expr}(M:Makes X.prog X.w X.K X.mg C k sp)(hm:X.mg x=some (.ref C))(hr:dR (k+1) X.A)(ha:PA X (e::es) t)
  (hg:Gl X x:=by rfl) (yn:(x==("__debug__":Str))=false:=by decide) (he:starEach (e::es) X.env=(false,eval e X.env)::starEach es X.env:=by rfl) (uT:(backTo pos (starEach es X.env)).any (·.1)=false:=by rfl):
  PE X (.Call (.Name x p) (e::es) [] pos) (zg C sp [] E0 t):=by
 obtain⟨fI,fd,ps,mk,F,b⟩:=M.ex;exact Tq mk (F X.base) hr hg hm b .nil aE ha yn he uT
theorem VL{f:Str}{x:V}{r:List (Str×V)}:bP f v ((f,x)::r)=(f,v)::r:=by
 show(if f=f then(f,v)::r else _)=_;rw[ai rfl]
theorem Qt{f:Str}{x:V}{r:List (Str×V)}(h:g≠f):bP f v ((g,x)::r)=(g,x)::bP f v r:=by
 show(if g=f then _ else(g,x)::bP f v r)=_;rw[ah h]
theorem ic{n:Str}{v:V}:∀{ns:List Str} {vs:List V} {i:Nat},ns.Nodup->ns[i]? =some n->vs.length=ns.length->bP n v (ns.zip vs)=ns.zip (vs.set i v)
 |[],_,_,_,h,_=>by simp at h
 |m::ns,[],_,_,_,h=>by simp at h
 |m::ns,x::vs,0,_,h,_=>by
  cases h;exact VL
 |m::ns,x::vs,i+1,nd,h,hl=>by
  have h':ns[i]? =some n:=h;obtain⟨n1,n2⟩:=List.nodup_cons.mp nd;show bP n v ((m,x)::ns.zip vs)=(m,x)::ns.zip (vs.set i v);rw[Qt (λq=>n1 (by rw[q];exact d7 h')),ic n2 h' (by simpa using hl)]
theorem ie{n:Str}{v:V}:∀{ns:List Str} {vs:List V},n ∉ ns->vs.length=ns.length->bP n v (ns.zip vs)=(ns++[n]).zip (vs++[v])
 |[],[],_,_=>rfl
 |[],_::_,_,h=>by simp at h
 |m::ns,[],_,h=>by simp at h
 |m::ns,x::vs,nm,hl=>by
  show bP n v ((m,x)::ns.zip vs)=(m,x)::(ns++[n]).zip (vs++[v]);rw[Qt (λq=>nm (by rw[q];exact bB)),ie (λq=>nm (aS _ q)) (by simpa using hl)]
theorem bM{n:Str}{v:V}:∀{ns:List Str} {vs:List V} {i:Nat},ns.Nodup->ns[i]? =some n->vs[i]? =some v->(ns.zip vs).lookup n=some v
 |[],_,_,_,h,_=>by simp at h
 |m::ns,[],_,_,_,h=>by simp at h
 |m::ns,x::vs,0,_,h,h2=>by
  cases h;cases h2;show List.lookup n ((n,v)::ns.zip vs)=_;rw[List.lookup_cons,beq_self_eq_true]
 |m::ns,x::vs,i+1,nd,h,h2=>by
  have h':ns[i]? =some n:=h;obtain⟨n1,n2⟩:=List.nodup_cons.mp nd;show List.lookup n ((m,x)::ns.zip vs)=_;rw[List.lookup_cons,beq_eq_false_iff_ne.mpr (λq=>n1 (by rw[<-q];exact d7 h'))];exact bM n2 h' h2
def pcN:List Str:=["outcome","instructions"]
theorem QM:pcN.Nodup:=by decide +kernel
def Yy(o i:V):List (Str×V):=pcN.zip [o,i]
theorem oy(o i:V):(Yy o i).lookup ("outcome":Str)=some o:=bM (i:=0) QM rfl rfl
theorem xB(o i:V):(Yy o i).lookup ("instructions":Str)=some i:=bM (i:=1) QM rfl rfl
structure iz(K:Frag)(mg:Str->Option Value)(C:Addr):Prop where
 cl:G0 K C
 nO:b_ K C "outcome"
 nI:b_ K C "instructions"
 nm:mg "Piece"=some (.ref C)
structure bI(C:Addr)(H:Hp)(a:Addr)(o:Option Nat)(c:Sf84.Code)(dx l:Addr)(rs:List Addr):Prop where
 ob:H a=some (.ins C dx (Yy (oV o) (.ref l)))
 co:bC H l c rs
theorem bI.same{C:Addr}{H H':Hp}{a:Addr}{o:Option Nat}{c:Sf84.Code}{dx l:Addr}{rs:List Addr}(p:bI C H a o c dx l rs)(s:a9 H H'):bI C H' a o c dx l rs:=⟨s _ _ p.ob,p.co.same s⟩
def Gives(C:Addr)(H:Hp)(o:Option Nat)(c:Sf84.Code)(Q:VK):Prop:=∀(H':Hp) (a dx l:Addr) (rs:List Addr),a9 H H'->bI C H' a o c dx l rs->Q (.ref a) H'
theorem aA{o:HO}(h:H a=none):a9 H (upd H a o):=λb u e=>by rw[ao (au e h)];exact e
theorem bC.cat{p:Addr}{d:Sf84.Code}(x:bC H a c rs)(y:bC H b d ts)(hp:H p=some (.lst (rs.map V.ref++ts.map V.ref))):bC H p (c++d) (rs++ts):=by
 refine⟨by rw[bH];exact hp,by rw[ba,ba,x.len,y.len],λi r z h1 h2=>?_⟩;by_cases hi:i<rs.length
 ·rw[gY hi]at h1;rw[gY (by rw[<-x.len];exact hi)]at h2;exact x.at_ i r z h1 h2
 ·have JF:rs.length<=i:=Ew hi;rw[jy JF]at h1;rw[jy (by rw[<-x.len];exact JF),<-x.len]at h2;exact y.at_ _ r z h1 h2
theorem bC.one{r:Addr}{x:Nat×Nat}(h:H l=some (.lst [.ref r]))(hr:mi H r x):bC H l [x] [r]:=⟨h,rfl,λi r' y h1 h2=>by
 match i,h1,h2 with
 |0,h1,h2=>cases h1;cases h2;exact hr
 |i+1,h1,_=>simp at h1⟩
section
inductive d9(C:Addr)(vs:List V)(H:Hp)(Q:VK)(_E:XK):Prop
 |mk (p dx:Addr) (o i:V):vs=[.ref p,o,i]->H p=some (.ins C dx [])->(∀H':Hp,H' p=some (.ins C dx (Yy o i))->(∀b u,H b=some u->b≠p->H' b=some u)->Q .dt H')->d9 C vs H Q _E
theorem Ck(F:bU K "__init__" "Piece.__init__" nh f fd)(T:iz K mg C):aP P w K mg base aV 1 f fd ["self","outcome","instructions"] (d9 C):=by
 refine F.ok BQ (λvs H Q E h=>?_) (λbG A outer s H vs Q E hr h=>?_)
 ·obtain⟨p,dx,o,i,rfl,_⟩:=h;rfl
 ·obtain⟨p,dx,o,i,rfl,hp,k⟩:=h;refine⟨_,ae (cv (pv 0) (pv 1) rfl) (ag (cv (pv 0) (pv 2) rfl)),?_⟩;refine⟨_,rfl,_,rfl,p,C,dx,[],rfl,hp,T.cl,T.nO,(by show 0<1000;decide),?_⟩;refine⟨_,rfl,_,rfl,p,C,dx,_,rfl,af,T.cl,T.nI,(by show 1<1000;decide),?_⟩;have e:bP "instructions" i (bP "outcome" o [])=Yy o i:=by
   exact ie (ns:=["outcome"]) (vs:=[o]) (by decide +kernel) rfl
  refine k _ (by rw[af,e]) λb u hb fR=>?_
  rw[ao fR,ao fR];exact hb
theorem gH{x:Addr}{o:Option Nat}(hx:H x=none)(hd:H dx=none)(hc:bC H l c rs)(k:Gives C H o c Q):
  d9 C [.ref x,oV o,.ref l] (upd (upd H dx (.own x)) x (.ins C dx [])) (λv H2=>v= .dt/\Q (.ref x) H2) E0:=by
 refine⟨x,dx,_,_,rfl,af,λH' h1 h2=>⟨rfl,?_⟩⟩;have sm:a9 H H':=λb u e=>h2 b u (by rw[ao (au e hx),ao (au e hd)];exact e) (au e hx)
 exact k H' x dx l rs sm ⟨h1,hc.same sm⟩
inductive kD(C:Addr)(vs:List V)(H:Hp)(Q:VK)(_E:XK):Prop
 |mk (n:Nat):vs=[vN n]->Gives C H (some n) [(0,n)] Q->kD C vs H Q _E
theorem Ah(F:bU K "known_piece" "known_piece" k_ f fd)(T:iz K mg C)(I:tj mg)(M:Makes P w K mg C 1 (d9 C)):aP P w K mg base aV 3 f fd ["outcome"] (kD C):=by
 refine F.ok zz (λvs H Q E h=>?_) (λbG A outer s H vs Q E hr h=>?_)
 ·obtain⟨n,rfl,_⟩:=h;rfl
 ·obtain⟨n,rfl,k⟩:=h;refine⟨_,ag (aq (kO M T.nm hr (aa (pv 0) (aa (aY (aa (jn (aa (cI I.put) (aa (pv 0) aj))) aj)) aj)))),?_⟩;refine⟨_,rfl,_,rfl,(by show 2<=sizeLine;decide),λt ht=>⟨(by show 1<=sizeLine;decide),λl hl=>?_⟩⟩;intro x dx hx pS fR;have s1:=aA (o:=.tup [V.int 0,vN n]) ht;have s2:=aA (o:=.lst [V.ref t]) hl;refine gH (o:=some n) (c:=[(0,n)]) (rs:=[t]) hx pS (bC.one af (s2 _ _ af)) λH' a d l' Yl sm pa=>k H' a d l' Yl ((s1.trans s2).trans sm) pa
def ES(C:Addr):Sp:=λvs H Q _=>vs=[]/\Gives C H none [(1,0)] Q
theorem yd(F:bU K "length_piece" "length_piece" jS f fd)(T:iz K mg C)(I:tj mg)(M:Makes P w K mg C 1 (d9 C)):aP P w K mg base aV 3 f fd [] (ES C):=by
 refine F.ok xW (λvs H Q E h=>?_) (λbG A outer s H vs Q E hr h=>?_)
 ·obtain⟨rfl,_⟩:=h;rfl
 ·obtain⟨rfl,k⟩:=h;refine⟨_,ag (aq (kO M T.nm hr (aa gG (aa (aY (aa (jn (aa (cI I.Yt) (aa ay aj))) aj)) aj)))),?_⟩;refine⟨(by show 2<=sizeLine;decide),λt ht=>⟨(by show 1<=sizeLine;decide),λl hl=>?_⟩⟩;intro x dx hx pS fR;have s1:=aA (o:=.tup [V.int 1,V.int 0]) ht;have s2:=aA (o:=.lst [V.ref t]) hl;refine gH (o:=none) (c:=[(1,0)]) (rs:=[t]) hx pS (bC.one af (s2 _ _ af)) λH' a d l' Yl sm pa=>k H' a d l' Yl ((s1.trans s2).trans sm) pa
abbrev Bz:Nat:=100000
theorem Lx(h:n<=2*Bz+2):n<=sizeLine:=a8 h (by decide)
inductive mx(C:Addr)(vs:List V)(H:Hp)(Q:VK)(_E:XK):Prop
 |mk (a dx l:Addr) (rs:List Addr) (o:Option Nat) (c:Sf84.Code) (n:Nat):vs=[.ref a,vN n]->bI C H a o c dx l rs->c.length<=Bz->Gives C H none (c++[(2,n)]) Q->mx C vs H Q _E
theorem Am(F:bU K "bytes_piece" "bytes_piece" ll f fd)(T:iz K mg C)(I:tj mg)(M:Makes P w K mg C 1 (d9 C)):aP P w K mg base aV 3 f fd ["place","size"] (mx C):=by
 refine F.ok zD (λvs H Q E h=>?_) (λbG A outer s H vs Q E hr h=>?_)
 ·obtain⟨a,dx,l,rs,o,c,n,rfl,_⟩:=h;rfl
 ·obtain⟨a,dx,l,rs,o,c,n,rfl,pa,hc,k⟩:=h;refine⟨_,ag (aq (kO M T.nm hr (aa gG (aa (bb gi (aD (pv 0) rfl) (aY (aa (jn (aa (cI I.take) (aa (pv 1) aj))) aj))) aj)))),?_⟩;refine⟨_,rfl,a,C,dx,_,_,rfl,pa.ob,T.cl,T.nI,xB _ _,_,rfl,(by show 2<=sizeLine;decide),λt ht=>⟨(by show 1<=sizeLine;decide),λq hq=>?_⟩⟩;have s1:=aA (o:=.tup [V.int 2,vN n]) ht;have s2:=aA (o:=.lst [V.ref t]) hq;have c2:=(pa.co.same s1).same s2;have hl:rs.length<=Bz:=by rw[pa.co.len];exact hc
  refine⟨l,q,_,_,rfl,rfl,c2.lst,af,Lx (by simp;omega),λz hz=>?_⟩;have s3:=aA (o:=.lst (rs.map V.ref++[V.ref t])) hz;intro x d hx pS fR;refine gH (o:=none) (c:=c++[(2,n)]) (rs:=rs++[t]) hx pS (bC.cat (c2.same s3) ((bC.one (x:=(2,n)) af (s2 _ _ af)).same s3) af) λH' a d l' Yl sm pa=>k H' a d l' Yl (((s1.trans s2).trans s3).trans sm) pa
inductive Hr(C:Addr)(vs:List V)(H:Hp)(Q:VK)(_E:XK):Prop
 |mk (a dx l b dy m:Addr) (rs ts:List Addr) (o u:Option Nat) (c d:Sf84.Code):vs=[.ref a,.ref b]->bI C H a o c dx l rs->bI C H b u d dy m ts->Q (.bl (o.isSome&&u.isSome)) H->Hr C vs H Q _E
theorem Q5(o:Option Nat):(!decide (oV o= .dt))=o.isSome:=by
 cases o with
 |none=>rfl
 |some n=>rfl
theorem Fz(F:bU K "are_known" "are_known" pz f fd)(T:iz K mg C):aP P w K mg base aV 1 f fd ["first","second"] (Hr C):=by
 refine F.ok E6 (λvs H Q E h=>?_) (λbG A outer s H vs Q E hr h=>?_)
 ·obtain⟨a,dx,l,b,dy,m,rs,ts,o,u,c,d,rfl,_⟩:=h;rfl
 ·obtain⟨a,dx,l,b,dy,m,rs,ts,o,u,c,d,rfl,pa,pb,k⟩:=h;refine⟨_,ag (aq (Fc (J9 (qE (aD (pv 0) rfl))) (zY (J9 (qE (aD (pv 1) rfl)))))),?_⟩;refine⟨_,rfl,a,C,dx,_,_,rfl,pa.ob,T.cl,T.nO,oy _ _,_,rfl,?_⟩;rw[Q5];cases o with
  |none=>exact cx az k
  |some n=>
   refine cu rfl ?_;refine⟨_,rfl,b,C,dy,_,_,rfl,pb.ob,T.cl,T.nO,oy _ _,?_⟩;show Q (V.bl (!decide (oV u=V.dt))) H;rw[Q5];exact k
end
section
theorem Gives.of{o:Option Nat}(k:Gives C H o c Q)(s:a9 H H1):Gives C H1 o c Q:=λH' a dx l rs sm pa=>k H' a dx l rs (s.trans sm) pa
def P7(K:Frag)(code:V):TE:=Hf Tf (Hf Tf (zh K (dJ 1) "instructions") (zh K (dJ 2) "instructions")) (XS (d5 (Vp (d5 (tC code) (d5 (dJ 0) gj))) gj))
theorem ZS{o:Option Nat}{d:Sf84.Code}(T:iz K mg C)(pa:bI C H a o c dx l rs)(pb:bI C H b u d dy m ts)(hc:c.length<=Bz)(hd:d.length<=Bz)
  (h:∀(H':Hp) (p:Addr) (qs:List Addr),a9 H H'->bC H' p (c++d++[(n,k)]) qs->Q (.ref p) H'):P7 K (vN n) [some (vN k),some (.ref a),some (.ref b)] H Q:=by
 have h1:rs.length<=Bz:=by rw[pa.co.len];exact hc
 have h2:ts.length<=Bz:=by rw[pb.co.len];exact hd
 refine⟨_,rfl,a,C,dx,_,_,rfl,pa.ob,T.cl,T.nI,xB _ _,_,rfl,b,C,dy,_,_,rfl,pb.ob,T.cl,T.nI,xB _ _,?_⟩;refine⟨l,m,_,_,rfl,rfl,pa.co.lst,pb.co.lst,Lx (by simp;omega),λp hp=>?_⟩;have s1:=aA (o:=.lst (rs.map V.ref++ts.map V.ref)) hp;have c1:=bC.cat (pa.co.same s1) (pb.co.same s1) af;refine⟨_,rfl,(by show 2<=sizeLine;decide),λt ht=>⟨(by show 1<=sizeLine;decide),λq hq=>?_⟩⟩;have s2:=aA (o:=.tup [vN n,vN k]) ht;have s3:=aA (o:=.lst [V.ref t]) hq;have c2:=(c1.same s2).same s3;have d2:bC _ q [(n,k)] [t]:=bC.one af (s3 _ _ af);refine⟨p,q,_,_,rfl,rfl,c2.lst,d2.lst,Lx (by simp;omega),λz hz=>?_⟩;have s4:=aA (o:=.lst ((rs++ts).map V.ref++[t].map V.ref)) hz;exact h _ z _ (((s1.trans s2).trans s3).trans s4) (bC.cat (c2.same s4) (d2.same s4) af)
def MO(v:Sf84.Val):Prop:=∀n,d6 v=some n->n<Sf84.W
theorem EA{a:Sf84.Val}(ha:MO a)(hb:MO b):MO (.op k a b):=by
 intro n h;cases ea:d6 a with
 |none=>rw[(lQ (.inl ea)).1]at h;cases h
 |some x=>cases eb:d6 b with
  |none=>rw[(lQ (.inr eb)).1]at h;cases h
  |some y=>
   rw[(rE ea eb).1]at h;cases h;exact xy (ha x ea) (hb y eb)
inductive vB(C:Addr)(vs:List V)(H:Hp)(Q:VK)(_E:XK):Prop
 |mk (a dx l b dy m:Addr) (rs ts:List Addr) (k:Nat) (va vb:Sf84.Val):vs=[vN k,.ref a,.ref b]->bI C H a (d6 va) (bX va) dx l rs->bI C H b (d6 vb) (bX vb) dy m ts->k<=6->MO va->MO vb->(bX va).length<=Bz->(bX vb).length<=Bz->Gives C H (d6 (.op k va vb)) (bX (.op k va vb)) Q->vB C vs H Q _E
inductive tZ(C:Addr)(vs:List V)(H:Hp)(Q:VK)(_E:XK):Prop
 |mk (a dx l b dy m:Addr) (rs ts:List Addr) (k:Nat) (va vb:Sf84.Val):vs=[vN k,.ref a,.ref b]->bI C H a (d6 va) (bX va) dx l rs->bI C H b (d6 vb) (bX vb) dy m ts->k<=5->MO va->MO vb->(bX va).length<=Bz->(bX vb).length<=Bz->Gives C H (da (.cmp k va vb)) (bA (.cmp k va vb)) Q->tZ C vs H Q _E
theorem sj(F:bU K "operation_piece" "operation_piece" hG f fd)(T:iz K mg C)(I:tj mg)(M:Makes P w K mg C 1 (d9 C))
  (mA:mg "are_known"=some (.ref fA)) (cA:Calls aV P w K mg fA 1 (Hr C)) (mK:mg "known_piece"=some (.ref fK)) (cK:Calls aV P w K mg fK 3 (kD C)) (mO:mg "operated"=some (.ref fO)) (cO:Calls aV P w K mg fO 2 Qb):
  aP P w K mg base aV 4 f fd ["choice","first","second"] (vB C):=by
 refine F.ok rN (λvs H Q E h=>?_) (λbG A outer s H vs Q E hr h=>?_)
 ·obtain⟨a,dx,l,b,dy,m,rs,ts,k,va,vb,rfl,_⟩:=h;rfl
 ·obtain⟨a,dx,l,b,dy,m,rs,ts,n,va,vb,rfl,pa,pb,hn,oa,ob,la,lb,k⟩:=h;refine⟨_,ae (a7 (dc (aR cA mA (hr.mono (by decide)) aE (aa (pv 1) (aa (pv 2) aj)))) (ag (aq (aR cK mK hr aE (aa (aR cO mO (hr.mono (by decide)) aE (aa (pv 0) (aa (aD (pv 1) rfl) (aa (aD (pv 2) rfl) aj)))) aj)))) aJ)
   (ag (aq (kO M T.nm (hr.mono (by decide)) (aa gG (aa (bb gi (bb gi (aD (pv 1) rfl) (aD (pv 2) rfl)) (aY (aa (jn (aa (cI I.YA) (aa (pv 0) aj))) aj))) aj))))),?_⟩
  refine⟨_,rfl,_,rfl,a,dx,l,b,dy,m,rs,ts,_,_,_,_,rfl,pa,pb,_,rfl,?_⟩;have Yz:(d6 va=none\/d6 vb=none)->vy (zg C (d9 C) [] E0 (d5 (tC .dt) (d5 (P7 K (vN 3)) gj))) {nx:=λ_ H'=>Q .dt H',rt:=Q} [some (vN n),some (.ref a),some (.ref b)] H:=by
   intro h;obtain⟨e1,e2⟩:=lQ (k:=n) h;rw[e1,e2]at k;refine ZS T pa pb la lb λH1 p qs sm cp=>?_
   intro x d hx hd fR;exact gH (o:=none) hx hd cp (k.of sm)
  cases ea:d6 va with
  |none=>exact cx az (Yz (.inl ea))
  |some x=>cases eb:d6 vb with
   |none=>exact cx az (Yz (.inr eb))
   |some y=>
    refine cu rfl ?_;obtain⟨e1,e2⟩:=rE (k:=n) ea eb;rw[e1,e2]at k;rw[ea]at pa;rw[eb]at pb;refine⟨_,rfl,_,rfl,a,C,dx,_,_,rfl,pa.ob,T.cl,T.nO,oy _ _,_,rfl,b,C,dy,_,_,rfl,pb.ob,T.cl,T.nO,oy _ _,n,x,y,rfl,hn,oa x ea,ob y eb,?_⟩;exact⟨_,rfl,k⟩
theorem qN(F:bU K "comparison_piece" "comparison_piece" gy f fd)(T:iz K mg C)(I:tj mg)(M:Makes P w K mg C 1 (d9 C))
  (mA:mg "are_known"=some (.ref fA)) (cA:Calls aV P w K mg fA 1 (Hr C)) (mK:mg "known_piece"=some (.ref fK)) (cK:Calls aV P w K mg fK 3 (kD C)) (mO:mg "compared"=some (.ref fO)) (cO:Calls aV P w K mg fO 2 Hq):
  aP P w K mg base aV 4 f fd ["choice","first","second"] (tZ C):=by
 refine F.ok qJ (λvs H Q E h=>?_) (λbG A outer s H vs Q E hr h=>?_)
 ·obtain⟨a,dx,l,b,dy,m,rs,ts,k,va,vb,rfl,_⟩:=h;rfl
 ·obtain⟨a,dx,l,b,dy,m,rs,ts,n,va,vb,rfl,pa,pb,hn,oa,ob,la,lb,k⟩:=h;refine⟨_,ae (a7 (dc (aR cA mA (hr.mono (by decide)) aE (aa (pv 1) (aa (pv 2) aj)))) (ag (aq (aR cK mK hr aE (aa (aR cO mO (hr.mono (by decide)) aE (aa (pv 0) (aa (aD (pv 1) rfl) (aa (aD (pv 2) rfl) aj)))) aj)))) aJ)
   (ag (aq (kO M T.nm (hr.mono (by decide)) (aa gG (aa (bb gi (bb gi (aD (pv 1) rfl) (aD (pv 2) rfl)) (aY (aa (jn (aa (cI I.comp) (aa (pv 0) aj))) aj))) aj))))),?_⟩
  refine⟨_,rfl,_,rfl,a,dx,l,b,dy,m,rs,ts,_,_,_,_,rfl,pa,pb,_,rfl,?_⟩;have Yz:(d6 va=none\/d6 vb=none)->vy (zg C (d9 C) [] E0 (d5 (tC .dt) (d5 (P7 K (vN 4)) gj))) {nx:=λ_ H'=>Q .dt H',rt:=Q} [some (vN n),some (.ref a),some (.ref b)] H:=by
   intro h;obtain⟨e1,e2⟩:=rH (k:=n) h;rw[e1,e2]at k;refine ZS T pa pb la lb λH1 p qs sm cp=>?_
   intro x d hx hd fR;exact gH (o:=none) hx hd cp (k.of sm)
  cases ea:d6 va with
  |none=>exact cx az (Yz (.inl ea))
  |some x=>cases eb:d6 vb with
   |none=>exact cx az (Yz (.inr eb))
   |some y=>
    refine cu rfl ?_;obtain⟨e1,e2⟩:=xn (k:=n) ea eb;rw[e1,e2]at k;rw[ea]at pa;rw[eb]at pb;refine⟨_,rfl,_,rfl,a,C,dx,_,_,rfl,pa.ob,T.cl,T.nO,oy _ _,_,rfl,b,C,dy,_,_,rfl,pb.ob,T.cl,T.nO,oy _ _,n,x,y,rfl,hn,oa x ea,ob y eb,?_⟩;exact⟨_,rfl,k⟩
inductive qw(C:Addr)(vs:List V)(H:Hp)(Q:VK)(_E:XK):Prop
 |mk (a dx l:Addr) (rs:List Addr) (t:Sf84.Test):vs=[.ref a]->bI C H a (da t) (bA t) dx l rs->(bA t).length<=Bz->Gives C H (da (.not_ t)) (bA (.not_ t)) Q->qw C vs H Q _E
theorem Fv(F:bU K "not_piece" "not_piece" pj f fd)(T:iz K mg C)(I:tj mg)(M:Makes P w K mg C 1 (d9 C))
  (mK:mg "known_piece"=some (.ref fK)) (cK:Calls aV P w K mg fK 3 (kD C)) (mN:mg "negated"=some (.ref fN)) (cN:Calls aV P w K mg fN 1 Ho):
  aP P w K mg base aV 4 f fd ["test"] (qw C):=by
 refine F.ok E3 (λvs H Q E h=>?_) (λbG A outer s H vs Q E hr h=>?_)
 ·obtain⟨a,dx,l,rs,t,rfl,_⟩:=h;rfl
 ·obtain⟨a,dx,l,rs,t,rfl,pa,la,k⟩:=h;refine⟨_,ae (a7 (jm (qE (aD (pv 0) rfl))) (ag (aq (aR cK mK hr aE (aa (aR cN mN (hr.mono (by decide)) aE (aa (aD (pv 0) rfl) aj)) aj)))) aJ)
   (ag (aq (kO M T.nm (hr.mono (by decide)) (aa gG (aa (bb gi (aD (pv 0) rfl) (aY (aa (jn (aa (cI I.neg) (aa ay aj))) aj))) aj))))),?_⟩
  refine⟨_,rfl,a,C,dx,_,_,rfl,pa.ob,T.cl,T.nO,oy _ _,_,rfl,?_⟩;cases ea:da t with
  |none=>
   refine cx az ?_;obtain⟨e1,e2⟩:=zd ea;rw[e1,e2]at k;refine⟨_,rfl,a,C,dx,_,_,rfl,pa.ob,T.cl,T.nI,xB _ _,(by show 2<=sizeLine;decide),λt' ht=>⟨(by show 1<=sizeLine;decide),λq hq=>?_⟩⟩;have s1:=aA (o:=.tup [V.int 5,V.int 0]) ht;have s2:=aA (o:=.lst [V.ref t']) hq;have c2:=(pa.co.same s1).same s2;have hl:rs.length<=Bz:=by rw[pa.co.len];exact la
   refine⟨l,q,_,_,rfl,rfl,c2.lst,af,Lx (by simp;omega),λz hz=>?_⟩;have s3:=aA (o:=.lst (rs.map V.ref++[V.ref t'])) hz;intro x d hx pS fR;exact gH (o:=none) hx pS (bC.cat (c2.same s3) ((bC.one (x:=(5,0)) af (s2 _ _ af)).same s3) af) (k.of ((s1.trans s2).trans s3))
  |some n=>
   refine cu rfl ?_;obtain⟨e1,e2⟩:=xm ea;rw[e1,e2]at k;rw[ea]at pa;refine⟨_,rfl,a,C,dx,_,_,rfl,pa.ob,T.cl,T.nO,oy _ _,n,rfl,?_⟩;exact⟨_,rfl,k⟩
inductive zp(C:Addr)(vs:List V)(H:Hp)(Q:VK)(_E:XK):Prop
 |mk (a dx l b dy m:Addr) (rs ts:List Addr) (n:Nat) (o u:Option Nat) (c d:Sf84.Code):vs=[vN n,.ref a,.ref b]->bI C H a o c dx l rs->bI C H b u d dy m ts->c.length<=Bz->d.length<=Bz->Gives C H none (c++[(n,d.length)]++d) Q->zp C vs H Q _E
theorem ye(F:bU K "joined_piece" "joined_piece" jT f fd)(T:iz K mg C)(M:Makes P w K mg C 1 (d9 C))(hlen:mg "len"=none):aP P w K mg base aV 3 f fd ["code","first","second"] (zp C):=by
 refine F.ok oo (λvs H Q E h=>?_) (λbG A outer s H vs Q E hr h=>?_)
 ·obtain⟨a,dx,l,b,dy,m,rs,ts,n,o,u,c,d,rfl,_⟩:=h;rfl
 ·obtain⟨a,dx,l,b,dy,m,rs,ts,n,o,u,c,d,rfl,pa,pb,la,lb,k⟩:=h;have nd:=oo.nd;refine⟨_,ae (aB (i:=3) nd rfl (Or.inl rfl) (aY (aa (jn (aa (pv 0) (aa (cb dv (by rfl) hlen PySem.boot_len (aa (aD (pv 2) rfl) aj)) aj))) aj)))
   (ag (aq (kO M T.nm hr (aa gG (aa (bb gi (bb gi (aD (pv 1) rfl) (pv 3)) (aD (pv 2) rfl)) aj))))),?_⟩
  refine⟨_,rfl,_,rfl,b,C,dy,_,_,rfl,pb.ob,T.cl,T.nI,xB _ _,m,_,rfl,.inl (bp.of pb.co.lst),(by show 2<=sizeLine;decide),λt ht=>⟨(by show 1<=sizeLine;decide),λq hq=>?_⟩⟩;have e0:((ts.map V.ref).length:Int)=((d.length:Nat):Int):=by rw[aH,pb.co.len]
  have s1:=aA (o:=.tup [vN n,V.int ((ts.map V.ref).length:Int)]) ht;have s2:=aA (o:=.lst [V.ref t]) hq;have QO:=(pa.same s1).same s2;have pb2:=(pb.same s1).same s2;have T7:mi (upd H t (.tup [vN n,V.int ((ts.map V.ref).length:Int)])) t (n,d.length):=by
   show(upd H t _) t=_;rw[af,e0]
  have d2:bC _ q [(n,d.length)] [t]:=bC.one af (s2 _ _ T7);have h1:rs.length<=Bz:=by rw[pa.co.len];exact la
  have h2:ts.length<=Bz:=by rw[pb.co.len];exact lb
  refine⟨_,rfl,a,C,dx,_,_,rfl,QO.ob,T.cl,T.nI,xB _ _,_,rfl,?_⟩;refine⟨l,q,_,_,rfl,rfl,QO.co.lst,d2.lst,Lx (by simp;omega),λp hp=>?_⟩;have s3:=aA (o:=.lst (rs.map V.ref++[t].map V.ref)) hp;have c3:=bC.cat (QO.co.same s3) (d2.same s3) af;have pb3:=pb2.same s3;refine⟨_,rfl,b,C,dy,_,_,rfl,pb3.ob,T.cl,T.nI,xB _ _,?_⟩;refine⟨p,m,_,_,rfl,rfl,c3.lst,pb3.co.lst,Lx (by simp;omega),λz hz=>?_⟩;have s4:=aA (o:=.lst ((rs++[t]).map V.ref++ts.map V.ref)) hz;intro x dd hx pS fR;exact gH (o:=none) hx pS (bC.cat (c3.same s4) (pb3.co.same s4) af) (k.of (((s1.trans s2).trans s3).trans s4))
end
section
inductive t7(C:Addr)(g:Sf84.Test->Sf84.Test->Sf84.Test)(vs:List V)(H:Hp)(Q:VK)(_E:XK):Prop
 |mk (a dx l b dy m:Addr) (rs ts:List Addr) (t u:Sf84.Test):vs=[.ref a,.ref b]->bI C H a (da t) (bA t) dx l rs->bI C H b (da u) (bA u) dy m ts->(bA t).length<=Bz->(bA u).length<=Bz->Gives C H (da (g t u)) (bA (g t u)) Q->t7 C g vs H Q _E
theorem vN0:decide (vN n=V.int 0)=decide (n=0):=by
 have:=W4 (a:=n) (b:=0);exact this
theorem FA(F:bU K "and_piece" "and_piece" pA f fd)(T:iz K mg C)(I:tj mg)
  (mJ:mg "joined_piece"=some (.ref fJ)) (cJ:Calls aV P w K mg fJ 3 (zp C)):aP P w K mg base aV 4 f fd ["first","second"] (t7 C .and_):=by
 refine F.ok E7 (λvs H Q E h=>?_) (λbG A outer s H vs Q E hr h=>?_)
 ·obtain⟨a,dx,l,b,dy,m,rs,ts,t,u,rfl,_⟩:=h;rfl
 ·obtain⟨a,dx,l,b,dy,m,rs,ts,t,u,rfl,pa,pb,la,lb,k⟩:=h;refine⟨_,ae (a7 (jm (qE (aD (pv 0) rfl))) (ag (aq (dA (aF dg (aD (pv 0) rfl) ay (aK _)) (pv 0) (pv 1)))) aJ)
   (ag (aq (aR cJ mJ hr aE (aa (cI I.no) (aa (pv 0) (aa (pv 1) aj)))))),?_⟩
  refine⟨_,rfl,a,C,dx,_,_,rfl,pa.ob,T.cl,T.nO,oy _ _,_,rfl,?_⟩;cases ea:da t with
  |none=>
   refine cx az ?_;obtain⟨e1,e2⟩:=ze (b:=u) ea;rw[e1,e2]at k;exact⟨_,rfl,_,rfl,a,dx,l,b,dy,m,rs,ts,6,_,_,_,_,rfl,pa,pb,la,lb,k⟩
  |some n=>
   refine cu rfl ?_;have pa':=pa;rw[ea]at pa;refine⟨_,rfl,a,C,dx,_,_,rfl,pa.ob,T.cl,T.nO,oy _ _,rfl,_,rfl,?_⟩;by_cases h0:n=0
   ·subst h0;refine cu rfl ⟨_,rfl,?_⟩;obtain⟨e1,e2⟩:=He (b:=u) ea;rw[e1,e2]at k;exact k H a dx l rs (a9.refl H) pa'
   ·refine cx (by show ¬decide (vN n=V.int 0)=true;rw[vN0,aQ h0];exact az) ⟨_,rfl,?_⟩;obtain⟨e1,e2⟩:=Dv (b:=u) ea h0;rw[e1,e2]at k;exact k H b dy m ts (a9.refl H) pb
theorem HY(F:bU K "or_piece" "or_piece" rV f fd)(T:iz K mg C)(I:tj mg)
  (mJ:mg "joined_piece"=some (.ref fJ)) (cJ:Calls aV P w K mg fJ 3 (zp C)):aP P w K mg base aV 4 f fd ["first","second"] (t7 C .or_):=by
 refine F.ok Hw (λvs H Q E h=>?_) (λbG A outer s H vs Q E hr h=>?_)
 ·obtain⟨a,dx,l,b,dy,m,rs,ts,t,u,rfl,_⟩:=h;rfl
 ·obtain⟨a,dx,l,b,dy,m,rs,ts,t,u,rfl,pa,pb,la,lb,k⟩:=h;refine⟨_,ae (a7 (jm (qE (aD (pv 0) rfl))) (ag (aq (dA (aF dg (aD (pv 0) rfl) ay (aK _)) (pv 1) (pv 0)))) aJ)
   (ag (aq (aR cJ mJ hr aE (aa (cI I.yes) (aa (pv 0) (aa (pv 1) aj)))))),?_⟩
  refine⟨_,rfl,a,C,dx,_,_,rfl,pa.ob,T.cl,T.nO,oy _ _,_,rfl,?_⟩;cases ea:da t with
  |none=>
   refine cx az ?_;obtain⟨e1,e2⟩:=Du (b:=u) ea;rw[e1,e2]at k;exact⟨_,rfl,_,rfl,a,dx,l,b,dy,m,rs,ts,7,_,_,_,_,rfl,pa,pb,la,lb,k⟩
  |some n=>
   refine cu rfl ?_;have pa':=pa;rw[ea]at pa;refine⟨_,rfl,a,C,dx,_,_,rfl,pa.ob,T.cl,T.nO,oy _ _,rfl,_,rfl,?_⟩;by_cases h0:n=0
   ·subst h0;refine cu rfl ⟨_,rfl,?_⟩;obtain⟨e1,e2⟩:=LN (b:=u) ea;rw[e1,e2]at k;exact k H b dy m ts (a9.refl H) pb
   ·refine cx (by show ¬decide (vN n=V.int 0)=true;rw[vN0,aQ h0];exact az) ⟨_,rfl,?_⟩;obtain⟨e1,e2⟩:=Hc (b:=u) ea h0;rw[e1,e2]at k;exact k H a dx l rs (a9.refl H) pa'
end
structure vo(h:Heap)(a C dx:Addr)(tb:Option Addr)(fl:Value):Prop where
 ex:∃(sl:Array (Option Value)) (vs:Array Value),h.get? a=some ⟨.ref C,some dx,.fields vs,sl⟩/\vs[1]? =some (match tb with|some T=>.ref T|none=>.none)
 tr:∀T,tb=some T->T≠a/\∃(oT:Obj) (ts:Array Value),h.get? T=some oT/\oT.data= .fields ts/\ts[3]? =some fl
structure Kept(h h':Heap)(fs:List Addr)(a:Addr)(tb:Option Addr):Prop where
 keep:∀b o,b ∉ fs->b≠a->tb≠some b->h.get? b=some o->h'.get? b=some o
 slot:∀b o,b≠a->tb≠some b->h.get? b=some o->∃sl,h'.get? b=some {o with slots:=sl}
 size:h.objs.size<=h'.objs.size
theorem tJ(h:Heap)(a:Addr)(g:Obj->Obj):(h.update a g).objs.size=h.objs.size:=by
 cases h;simp[Heap.update]
section
variable {M:Model} {E:Value->Shared->Prop}
theorem A3{Q:Unit->Shared->Prop}
  (KO:A.frames=some (env::outer)) (hl:s.heap.FunFrames base (env::outer)) (hf:env.frame=some L) (he:s.heap.get? a=some ⟨.ref C,some dx,.fields vs,sl⟩) (hsz:1<vs.size) (ha:a ∉ oN (env::outer))
  (k:∀h' T,s.heap.objs.size<=T->vo h' a C dx (some T) (rawInt L)->Kept s.heap h' (oN (env::outer)) a none->Q () {s with heap:=h'}):
  wpAny M A (do let x<-frameOf env;let pl<-entryPlaceOf L hn;let b<-EntryCells.newEntry hd x .none (rawInt L) .none pl;setField (.ref a) 1 b) Q E s:=by
 refine wpAny_bind (wpAny_frameOf_fun KO hl hf λg1 so=>?_);obtain⟨z1,z2,z3⟩:=so;refine wpAny_bind (wpAny_entryPlaceOf λpl uT=>?_);have ga:g1.get? a=some ⟨.ref C,some dx,.fields vs,sl⟩:=(z2 a ha).trans he;have lt:a<g1.objs.size:=Heap.lt_size ga;refine wpAny_bind (wpAny_newObj_type ?_ (uT.sizeOk5 _ _ _ _ _));generalize hpv:(([hd,.ref L,.none,rawInt L,.none]++(if pl.isEmpty then List.replicate 6 Value.none else pl)).toArray:Array Value)=ts;have t3:ts[3]? =some (rawInt L):=by
  rw[<-hpv];rcases uT with rfl|⟨_,_,_,_,_,_,_,rfl⟩<;>simp
 have gp:=Heap.get?_push_of_some (h:=g1) {cls:=.type "traceback",dict:=none,data:=.fields ts} ga;refine wpAny_setField gp rfl hsz (k _ g1.objs.size (by show _<=g1.objs.size;omega) ⟨⟨sl,vs.setIfInBounds 1 (.ref g1.objs.size),?_,by simp[hsz]⟩,?_⟩ ⟨λb o h1 h2 _ h3=>?_,λb o h2 _ h3=>?_,?_⟩)
 ·exact Heap.get?_update_self _ gp rfl
 ·intro T hT;cases hT;refine⟨Nat.ne_of_gt lt,{cls:=.type "traceback",dict:=none,data:=.fields ts},ts,?_,rfl,t3⟩;show(Heap.update _ a _).get? _=_;rw[Heap.get?_update_other _ _ (Nat.ne_of_lt lt)];exact Heap.get?_push_size _ rfl
 ·show(Heap.update _ a _).get? _=_;rw[Heap.get?_update_other _ _ (Ne.symm h2)];exact Heap.get?_push_of_some _ ((z2 b h1).trans h3)
 ·obtain⟨Xh,e⟩:=z3 b o h3;refine⟨Xh,?_⟩;show(Heap.update _ a _).get? _=_;rw[Heap.get?_update_other _ _ (Ne.symm h2)];exact Heap.get?_push_of_some _ e
 ·show s.heap.objs.size<=(Heap.update _ a _).objs.size;rw[tJ];simp only [Heap.size_push];omega
theorem DS{Q:Unit->Shared->Prop}
  (KO:A.frames=some (env::outer)) (hl:s.heap.FunFrames base (env::outer)) (hf:env.frame=some L) (fl:vo s.heap a C dx tb .none)
  (k:∀h' T,s.heap.objs.size<=T->vo h' a C dx (some T) (rawInt L)->Kept s.heap h' (oN (env::outer)) a tb->Q () {s with heap:=h'}):wpAny M A (noteFrame (.ref a) env) Q E s:=by
 obtain⟨⟨sl,vs,he,h1⟩,tr⟩:=fl;have hsz:1<vs.size:=(Array.getElem?_eq_some_iff.mp h1).1;have ha:a ∉ oN (env::outer):=λhm=>by
  obtain⟨_,o,ho,Ze⟩:=hl.mem hm;rw[he]at ho;cases ho;exact Ze vs rfl
 unfold noteFrame;simp only [hf];refine wpAny_bind (wpAny_field he rfl h1 ?_);cases tb with
 |none=>
  rw[ah (by decide)];exact A3 KO hl hf he hsz ha k
 |some T=>
  obtain⟨hTa,oT,ts,hT,U5,h3⟩:=tr T rfl;have hTf:T ∉ oN (env::outer):=λhm=>by
   obtain⟨_,o,ho,Ze⟩:=hl.mem hm;rw[hT]at ho;cases ho;exact Ze ts U5
  rw[ai (show(Value.ref T != Value.none)=true by simp)];refine wpAny_bind (wpAny_field hT U5 h3 ?_);rw[ah (show ¬((Value.none==rawInt L)=true) by simp[rawInt])];refine wpAny_bind (wpAny_setField hT U5 (Array.getElem?_eq_some_iff.mp h3).1 ?_);have VT:∀b,b≠T->(s.heap.update T (Obj.mapFields (·.setIfInBounds 3 Value.none))).get? b=s.heap.get? b:=λb hb=>Heap.get?_update_other _ _ (Ne.symm hb)
  refine A3 (s:={s with heap:=s.heap.update T (Obj.mapFields (·.setIfInBounds 3 Value.none))}) (base:=base) KO (hl.of_keeps λb o hb Ze=>⟨o,?_,rfl⟩) hf (by show(s.heap.update T _).get? a=_;rw[VT a (Ne.symm hTa)];exact he) hsz ha λh' T' hs F K=>?_
  ·rw[VT b (λq=>by rw[q,hT]at hb;cases hb;exact Ze ts U5)];exact hb
  ·refine k h' T' (by rw[<-tJ s.heap T (Obj.mapFields (·.setIfInBounds 3 Value.none))];exact hs) F ⟨λb o h1 h2 h3 h4=>?_,λb o h2 h3 h4=>?_,by rw[<-tJ s.heap T (Obj.mapFields (·.setIfInBounds 3 Value.none))];exact K.size⟩
   ·exact K.keep b o h1 h2 (by simp) (by show(s.heap.update T _).get? b=_;rw[VT b (λq=>h3 (by rw[q]))];exact h4)
   ·exact K.slot b o h2 (by simp) (by show(s.heap.update T _).get? b=_;rw[VT b (λq=>h3 (by rw[q]))];exact h4)
theorem wx{Q:Unit->Shared->Prop}(F:vo s.heap a C dx (some T) fl)
  (k:∀h',vo h' a C dx (some T) .none->(∀b o,b≠T->s.heap.get? b=some o->h'.get? b=some o)->h'.objs.size=s.heap.objs.size->Q () {s with heap:=h'}):wpAny M A (setFlight (.ref a) none) Q E s:=by
 obtain⟨⟨sl,vs,he,h1⟩,tr⟩:=F;obtain⟨hTa,oT,ts,hT,U5,h3⟩:=tr T rfl;have Y6:=(Array.getElem?_eq_some_iff.mp h3).1;unfold setFlight;refine wpAny_bind (wpAny_field he rfl h1 ?_);rw[ai (show(Value.ref T != Value.none)=true by simp)];refine wpAny_setField hT U5 Y6 (k _ ⟨⟨sl,vs,?_,h1⟩,λT' e=>?_⟩ (λb o hb e=>?_) (tJ _ _ _))
 ·show(Heap.update _ T _).get? a=_;rw[Heap.get?_update_other _ _ hTa];exact he
 ·cases e;refine⟨hTa,_,_,Heap.get?_update_self _ hT (Obj.isFreed_of_fields (Obj.data_mapFields U5 _)),Obj.data_mapFields U5 _,?_⟩;simp[Y6]
 ·show(Heap.update _ T _).get? b=_;rw[Heap.get?_update_other _ _ (Ne.symm hb)];exact e
theorem KD{Q:Unit->Shared->Prop}
  (KO:A.frames=some (env::outer)) (hl:s.heap.FunFrames base (env::outer)) (hf:env.frame=some L) (fl:vo s.heap a C dx tb .none)
  (k:∀h' T,s.heap.objs.size<=T->vo h' a C dx (some T) .none->Kept s.heap h' (oN (env::outer)) a tb->Q () {s with heap:=h'}):wpAny M A («leaving» env (.ref a)) Q E s:=by
 unfold «leaving»;refine wpAny_bind (DS KO hl hf fl λh1 T hT F1 K1=>?_);refine wx (s:={s with heap:=h1}) F1 λh2 F2 k2 z2=>?_
 have nT:∀b o,s.heap.get? b=some o->b≠T:=λb o e q=>by
  have:=Heap.lt_size e;rw[q]at this;exact absurd this (Nat.not_lt.mpr hT)
 refine k h2 T hT F2 ⟨λb o e1 e2 e3 e4=>k2 b o (nT b o e4) (K1.keep b o e1 e2 e3 e4),λb o e2 e3 e4=>?_,?_⟩
 ·obtain⟨sl,e⟩:=K1.slot b o e2 e3 e4;exact⟨sl,k2 b _ (nT b o e4) e⟩
 ·have:=K1.size;have z2':h2.objs.size=h1.objs.size:=z2;omega
end
def UB(h:Heap)(dx:Addr)(p:Int):Prop:=∃(mA:Str->Option Value) (t:Tok),h.Ns1 dx mA/\mA "place"=some (.int p t)/\PySem.Within mA ["place"]
def gq(P:Program)(w:World)(C:Addr):JI:=λouter H s E e s'=>∃(a dx:Addr) (tb:Option Addr) (p:Int) (H':Hp),e= .ref a/\s'.os=s.os/\AllBare s'.gens/\Un (oN outer) [] H H' s.heap s'.heap/\mm P w H' s'.heap/\
 vo s'.heap a C dx tb .none/\s.heap.get? a=none/\(∀T,tb=some T->s.heap.get? T=none)/\H' a=none/\(∀T,tb=some T->H' T=none)/\
 (s.heap.get? dx=none/\dx≠a/\tb≠some dx/\H' dx=none)/\UB s'.heap dx p/\E (.int p 0) (some a) H'
theorem sL{base h h':Heap}:∀{l:List Env},h.FunFrames base l->(∀b∈oN l,∀o,h.get? b=some o->∃sl,h'.get? b=some {o with slots:=sl})->h'.FunFrames base l
 |[],_,_=>trivial
 |env::r,⟨hk,⟨L,o,hf,hn,ho,hd⟩,hr⟩,hs=>by
  have hL:L∈oN (env::r):=by unfold oN;rw[List.filterMap_cons,hf];exact bB
  obtain⟨sl,e⟩:=hs L hL o ho;refine⟨hk,⟨L,_,hf,hn,e,hd⟩,sL hr λb hb o ho=>hs b ?_ o ho⟩;unfold oN;rw[List.filterMap_cons,hf];exact aS _ hb
theorem Ii{h':Heap}(x:h.Ns1 dx m)(k:∀o,h.get? dx=some o->h'.get? dx=some o):h'.Ns1 dx m:=by
 obtain⟨o,es,ep,e,r⟩:=x;exact⟨o,es,ep,k o e,r⟩
theorem dO.there{o:HO}(x:L2.dO P w H h a o):∃u,h.get? a=some u:=by
 cases o with
 |lst xs=>obtain⟨_,_,_,_,e⟩:=x;exact⟨_,e⟩
 |tup xs=>obtain⟨_,_,_,⟨_,e,_⟩⟩:=x;exact⟨_,e⟩
 |dK bD=>obtain⟨_,_,_,_,o,_,_,e,_⟩:=x;exact⟨_,e⟩
 |dT bD=>obtain⟨_,_,_,_,o,_,_,e,_⟩:=x;exact⟨_,e⟩
 |set S n=>obtain⟨o,_,_,_,e,_⟩:=x;exact⟨_,e⟩
 |ins C dx fs=>obtain⟨_,_,_,e,_⟩:=x;exact⟨_,e⟩
 |own y=>exact x
 |xd fs=>obtain⟨_,⟨_,_,_,e,_⟩,_⟩:=x;exact⟨_,e⟩
 |Pq lo hi=>obtain⟨_,_,_,e⟩:=x;exact⟨_,e⟩
 |Ed ob u=>obtain⟨e,_⟩:=x;exact⟨_,e⟩
 |UG ps=>exact⟨_,(show h.get? a=some _ from x)⟩
 |met f y=>exact⟨_,(show h.get? a=some _ from x)⟩
 |ext φ=>obtain⟨_,e,_⟩:=x;exact e
theorem Mu(x:mm P w H h)(e:h.get? a=none):H a=none:=by
 cases q:H a with
 |none=>rfl
 |some o=>
  obtain⟨u,e'⟩:=dO.there (x a o q);rw[e]at e';cases e'
section
theorem df:
  Passes (gq P w C) (CS (gq P w C) P w K mg base N qual scope f cd A outer s0 H0 E) E:=by
 intro pins σ H s e s' I hx;obtain⟨a,dx,tb,p,H',rfl,Y_,RD,un,cM,fl,ha,hT,na,nT,⟨hd1,hd2,hd3,hd4⟩,pl,hE⟩:=hx;have Rp:(CS (gq P w C) P w K mg base N qual scope f cd A outer s0 H0 E).stack=envOfC qual scope s0.heap.objs.size f cd::outer:=rfl;have ext:∀b o,s.heap.get? b=some o->b≠a/\tb≠some b/\b≠dx:=λb o e=>by
  refine⟨λq=>?_,λq=>?_,λq=>?_⟩
  ·rw[q,ha]at e;cases e
  ·rw[hT b q]at e;cases e
  ·rw[q,hd1]at e;cases e
 have Mf:∀b:Addr,b ∉ ([]:List Addr):=λb=>by simp
 have frH:∀b∈oN (envOfC qual scope s0.heap.objs.size f cd::outer),H' b=none:=λb hb=>by
  have h1:=I.qt b hb;obtain⟨_,o,ho,_⟩:=I.stack.mem hb;exact un.free b o ho h1 (Mf b)
 have oM:s'.heap.FunFrames base (envOfC qual scope s0.heap.objs.size f cd::outer):=sL I.stack λb hb o ho=>un.any ho (I.qt b hb) (Mf b)
 show wpAny _ _ («leaving» _ (.ref a)) _ _ s';refine KD (base:=base) I.ok.frames oM rfl fl λh2 T UZ F2 K2=>?_
 have old:∀b,s.heap.get? b=none->s0.heap.get? b=none:=λb e=>by
  cases q:s0.heap.get? b with
  |none=>rfl
  |some o=>
   obtain⟨o',e'⟩:=I.base.there b o q (Mf b);rw[e]at e';cases e'
 have PN:∀b o,H' b=some o->b ∉ oN (envOfC qual scope s0.heap.objs.size f cd::outer)/\b≠a/\tb≠some b:=λb o e=>by
  refine⟨λq=>?_,λq=>?_,λq=>?_⟩
  ·rw[frH b q]at e;cases e
  ·rw[q,na]at e;cases e
  ·rw[nT b q]at e;cases e
 have exL:∀b o,s0.heap.get? b=some o->b ∉ oN outer->b ∉ oN (envOfC qual scope s0.heap.objs.size f cd::outer):=λb o e h1 hb=>by
  have GY:b∈s0.heap.objs.size::oN outer:=hb;rcases List.mem_cons.mp GY with q|q
  ·have:=Heap.lt_size e;rw[q]at this;exact absurd this (Nat.lt_irrefl _)
  ·exact h1 q
 have inL:∀b,b∈oN outer->b∈oN (envOfC qual scope s0.heap.objs.size f cd::outer):=λb hb=>aS _ hb
 have un':Un (oN outer) [] H0 H' s0.heap h2:=by
  refine⟨λb o e n hb hx=>?_,λb o e n hb hx=>?_,λb o e n hx=>?_,λb o e hx=>?_,λb xs e=>un.xS b xs (I.base.xS b xs e),λb o xs e=>un.wF b o xs (I.base.wF b o xs e),λb ps e=>?_⟩
  ·have e1:=I.base.keep b o e n hb hx;have n1:=I.base.free b o e n hx;have e2:=un.keep b o e1 n1 (exL b o e hb) hx;obtain⟨q1,q2,_⟩:=ext b o e1;exact K2.keep b o (exL b o e hb) q1 q2 e2
  ·obtain⟨sl,e1⟩:=I.base.slot b o e n hb hx;have n1:=I.base.free b o e n hx;obtain⟨sl2,e2⟩:=un.any e1 n1 hx;obtain⟨q1,q2,_⟩:=ext b _ e1;obtain⟨sl3,e3⟩:=K2.slot b _ q1 q2 e2;exact⟨sl3,e3⟩
  ·obtain⟨o1,e1⟩:=I.base.there b o e hx;exact un.free b o1 e1 (I.base.free b o e n hx) hx
  ·obtain⟨o1,e1⟩:=I.base.there b o e hx;obtain⟨o2,e2⟩:=un.there b o1 e1 hx;obtain⟨q1,q2,_⟩:=ext b o1 e1;obtain⟨sl,e3⟩:=K2.slot b o2 q1 q2 e2;exact⟨_,e3⟩
  ·obtain⟨m1,e1⟩:=I.base.xT b ps e;obtain⟨m2,e2⟩:=un.xT b _ e1;exact⟨m1++m2,by rw[e2,Array.append_assoc]⟩
 have UW:∀b o u,H' b=some o->s'.heap.get? b=some u->h2.get? b=some u:=λb o u hb e=>by
  obtain⟨q1,q2,q3⟩:=PN b o hb;exact K2.keep b u q1 q2 q3 e
 have abQ:mm P w H' h2:=λb o e=>(cM b o e).ED (λc v hc q=>by
  rcases hc with hc|hc
  ·rw[hc]at q ⊢;exact UW b o v e q
  ·exact UW c _ v hc q) (λ_ q=>q) λ_ _ q=>q
 have dk:∀o,s'.heap.get? dx=some o->h2.get? dx=some o:=λo e=>by
  refine K2.keep dx o (λq=>?_) hd2 hd3 e;obtain⟨_,o',JD,_⟩:=I.stack.mem q;exact(ext dx o' JD).2.2 rfl
 obtain⟨mA,t,n1,n2,n3⟩:=pl;refine⟨a,dx,some T,p,H',rfl,Y_.trans I.os,RD,un',abQ,F2,old a ha,λT' e=>?_,na,λT' e=>?_,⟨old dx hd1,hd2,λq=>?_,hd4⟩,⟨mA,t,Ii n1 dk,n2,n3⟩,hE⟩
 ·cases e;refine old T ?_;cases q:s.heap.get? T with
  |none=>rfl
  |some o=>
   obtain⟨o',e'⟩:=un.there T o q (Mf T);exact absurd (Heap.lt_size e') (Nat.not_lt.mpr UZ)
 ·cases e;exact cM.fresh UZ
 ·cases q;obtain⟨o,_,_,e,_⟩:=n1;exact absurd (Heap.lt_size e) (Nat.not_lt.mpr UZ)
end
end Fk
namespace Fk
open PySem PySem.Spec PyProof.Rows L2
open PySem.Builtin PySem.Builtin.ObjectAttr
open PySem.W (Codec Frag nsIn keepIn mg_of fnOf findIn)
open Sf84 (Bytes Toks nums trimmed reckoned weight stepped)
variable {P:Program} {w:World} {K:PySem.W.Frag} {mg:Str->Option Value} {base:Heap} {fd:FuncData} {f:Addr} {C:Addr} {H:Hp} {H':Hp} {a:Addr} {x:Str} {s:Shared} {Q:VK} {CF:Addr} {xs:List V} {r:Sf84.Toks} {n:Nat} {k:Nat} {i:Nat} {h:Heap} {E:XK} {as:List Addr} {rs:List Addr} {bD:List (Key×V)} {st:Stmt} {ps:List Str} {sp:Sp} {CX:JI} {c:Sf84.Code} {A:Around} {v:V} {dx:Addr} {CR:Addr} {CT:Addr} {l:Addr} {p:Nat} {o:Nat} {e:Nat} {d:Nat}
abbrev WV:List Value:=[.type "Exception",.type "BaseException",.type "object"]
structure ExcAt(h:Heap)(C N fI:Addr):Prop where
 ob:∃(nm q:Str) (bs:List Value) (sn:List Str) (sub:List Value) (ab:Bool) (col:Option Bool) (dd:Option Addr) (k0 k1 k2 k3 k5:Option Value),h.get? C=some (excClassObj nm q C N bs WV true sn sub ab col dd k0 k1 k2 k3 k5 "Exception.__new__")
 ns:∃mN,h.Ns N mN/\mN "__init__"=some (.ref fI)/\mN "__setattr__"=none/\mN "place"=none/\mN "__getattribute__"=none/\mN "__getattr__"=none
 fn:∃oI,h.get? fI=some oI/\oI.cls= .type "function"
theorem ExcAt.keeps{h h':Heap}{C:Addr}(x:ExcAt h C N fI)(k:∀b o,h.get? b=some o->h'.get? b=some o):ExcAt h' C N fI:=by
 obtain⟨⟨nm,q,bs,sn,sub,ab,col,dd,k0,k1,k2,k3,k5,hC⟩,⟨mN,hn,r⟩,⟨oI,hI,hc⟩⟩:=x;exact⟨⟨nm,q,bs,sn,sub,ab,col,dd,k0,k1,k2,k3,k5,k _ _ hC⟩,⟨mN,hn.keeps k,r⟩,⟨oI,k _ _ hI,hc⟩⟩
theorem Im:typeLookup (.type "Exception") "place"=pure none:=by rw[typeLookup_type,builtinLookup_eq_fast];kernel_rfl
section
variable {prog:Program} {E:Value->Shared->Prop} {g:Array GenState} {d:Drawn} {t:Nat} {os:OsState} {C N x:Addr} {o:Obj} {v:Value} {name:Str}
variable {nm q:Str} {bs bm:List Value} {sn:List Str} {sub:List Value} {ab:Bool} {col:Option Bool} {dd:Option Addr} {k0 k1 k2 k3 k5:Option Value} {B newId sa owner:String} {mN:Str->Option Value}
theorem IJ{Q:Fin->Shared->Prop}(SF:StoreFacts B bm sa owner)(hC:h.get? C=some (excClassObj nm q C N bs bm true sn sub ab col dd k0 k1 k2 k3 k5 newId))(hn:h.Ns N mN)(T_:mN name=none)(lk:typeLookup (.type B) name=pure none)
  (ho:h.get? x=some o) (hc:o.cls= .ref C) (WC:o.dict=none) (KL:∀c,o.data≠ .cls c)
  (k:∀h' Sv,(∀b u,b≠x->h.get? b=some u->h'.get? b=some u)->h'.get? x=some {o with dict:=some h.objs.size}->h'.Ns1 h.objs.size (λy=>if y=name then some v else none)->Q (.done (.ret .none)) ⟨h',g,d,Sv,os⟩):
  wpAny (model prog w) A (Builtin.«object.__setattr__» ⟨[.ref x,.str name tk,v],[]⟩) Q E ⟨h,g,d,t,os⟩:=by
 have pass:=SF.passes (.ref x);unfold Builtin.«object.__setattr__»
 repeat (first
  |rw[refuse_eq]
  |rw[refuseLoop_ref,pass]
  |(with_reducible refine wpAny_loadPart_at ho ?_;rw[hc])
  |with_reducible refine wpAny_mroOf_exc hC ?_
  |(with_reducible refine wpAny_typeLookup_exc hC hn SF.mro lk ?_;rw[T_])
  |wp_step)
 rw[WC,ah (by simp[typeHasDict])];split
 ·rename_i yN;cases yN
 split
 ·rename_i c yN;exact absurd yN (KL c)
 have hx1:(h.push {cls:=.type "dict",data:=.dict #[]}).get? x=some o:=Heap.get?_push_of_some _ ho;have hxs:x≠h.objs.size:=Nat.ne_of_lt (Heap.lt_size ho);refine wpAny_bind (wpAny_alloc' (wpAny_bind (wpAny_update' hx1 (wpAny_pure ?_))));have gd:((h.push {cls:=.type "dict",data:=.dict #[]}).update x λo=>{cls:=o.cls,dict:=some h.objs.size,data:=o.data,slots:=o.slots}).get? h.objs.size=some {cls:=.type "dict",data:=.dict #[]}:=by
  rw[Heap.get?_update_ne _ _ _ _ hxs.symm];exact Heap.get?_push_at rfl rfl
 have nd:((h.push {cls:=.type "dict",data:=.dict #[]}).update x λo=>{cls:=o.cls,dict:=some h.objs.size,data:=o.data,slots:=o.slots}).Ns h.objs.size (λ_=>none):=⟨_, #[],_,gd,rfl,λe he=>absurd he (by simp),λ_=>rfl⟩;show wpAny _ _ (storeInDict h.objs.size (.str name tk) name v) _ _ _;unfold storeInDict newKeyGuard;refine wpAny_bind (wpAny_pure (wpAny_bind (wpAny_nsSet1 (Heap.Ns1.of_empty nd) λh' Xp hs=>?_)));obtain⟨oD,esD,epD,hoD,hdD,hcD⟩:=Xp.count (Within.cons name v Within.nil);refine wpAny_bind (wpAny_lookBehind hoD (by rw[hdD];exact pastItsLine_dict (a8 hcD (by rw[di,List.length_nil,sizeLine_eq];omega))) ?_)
 wp_walk
 refine k h' _ (λb u hb e=>?_) ?_ Xp
 ·rw[hs.2 b (Nat.ne_of_lt (Heap.lt_size e)),Heap.get?_update_ne _ _ _ _ hb];exact Heap.get?_push_of_some _ e
 ·rw[hs.2 x hxs];refine Heap.get?_update_self _ hx1 ?_;have KO:=(Heap.get?_some_iff.mp ho).2;obtain⟨oc,od,odt,DN⟩:=o;cases odt<;>first|rfl|exact KO
theorem KW{R:Result->Shared->Prop}(SF:StoreFacts B bm sa owner)(hC:h.get? C=some (excClassObj nm q C N bs bm true sn sub ab col dd k0 k1 k2 k3 k5 newId))(hn:h.Ns N mN)(T_:mN name=none)(lk:typeLookup (.type B) name=pure none)
  (ho:h.get? x=some o) (hc:o.cls= .ref C) (WC:o.dict=none) (KL:∀c,o.data≠ .cls c)
  (k:∀h' Sv,(∀b u,b≠x->h.get? b=some u->h'.get? b=some u)->h'.get? x=some {o with dict:=some h.objs.size}->h'.Ns1 h.objs.size (λy=>if y=name then some v else none)->R (.ok (.ret .none)) ⟨h',g,d,Sv,os⟩):
  codeAny (model prog w) A (.call (.builtin sa) ⟨[.ref x,.str name tk,v],[]⟩) R ⟨h,g,d,t,os⟩:=
 codeAny_call_builtin SF.slot.plain SF.entry (wpAny_check_sa SF hC ho hc (IJ SF hC hn T_ lk ho hc WC KL k))
theorem KY{Q:Unit->Shared->Prop}(SF:StoreFacts B bm sa owner)(hC:h.get? C=some (excClassObj nm q C N bs bm true sn sub ab col dd k0 k1 k2 k3 k5 newId))(hn:h.Ns N mN)(JE:mN "__setattr__"=none)(T_:mN name=none)(lk:typeLookup (.type B) name=pure none)
  (ho:h.get? x=some o) (hc:o.cls= .ref C) (WC:o.dict=none) (KL:∀c,o.data≠ .cls c)
  (k:∀h' Sv,(∀b u,b≠x->h.get? b=some u->h'.get? b=some u)->h'.get? x=some {o with dict:=some h.objs.size}->h'.Ns1 h.objs.size (λy=>if y=name then some v else none)->Q () ⟨h',g,d,Sv,os⟩):
  wpAny (model prog w) A (setAttr (.ref x) name v) Q E ⟨h,g,d,t,os⟩:=by
 have f3:=SF.slot.bind (.ref x);unfold setAttr callSpecial? specialOf
 repeat (any_goals (first
  |assumption
  |(with_reducible refine wpAny_loadPart_at ho ?_;rw[hc])
  |(with_reducible refine wpAny_typeLookup_exc hC hn SF.mro SF.slot.lookup ?_;rw[JE])
  |wp_step))
 refine KW SF hC hn T_ lk ho hc WC KL λh' Sv a1 a2 a3=>?_
 repeat (any_goals (first|assumption|wp_step))
 exact k h' Sv a1 a2 a3
end
section
variable {prog:Program} {E:Value->Shared->Prop} {g:Array GenState} {d:Drawn} {t:Nat} {os:OsState} {C N x dx:Addr} {o:Obj} {v:Value} {name:Str}
variable {nm q:Str} {bs bm:List Value} {sn:List Str} {sub:List Value} {ab:Bool} {col:Option Bool} {dd:Option Addr} {k0 k1 k2 k3 k5:Option Value} {B newId:String} {mN mA:Str->Option Value}
theorem Nv{Q:Fin->Shared->Prop}(FB:ExcAttrBase B bm)(hC:h.get? C=some (excClassObj nm q C N bs bm true sn sub ab col dd k0 k1 k2 k3 k5 newId))(hn:h.Ns N mN)(Rt:mN name=none)(lk:typeLookup (.type B) name=pure none)
  (ho:h.get? x=some o) (hc:o.cls= .ref C) (pS:o.dict=some dx) (KL:∀c,o.data≠ .cls c) (JE:h.Ns1 dx mA) (hv:mA name=some v) (hq:Q (.done (.ret v)) ⟨h,g,d,t,os⟩):
  wpAny (model prog w) A (Builtin.«object.__getattribute__» ⟨[.ref x,.str name tk],[]⟩) Q E ⟨h,g,d,t,os⟩:=by
 unfold Builtin.«object.__getattribute__»
 repeat (first
  |(with_reducible refine wpAny_loadPart_at ho ?_;rw[hc])
  |(with_reducible refine wpAny_typeLookup_exc hC hn FB.mro lk ?_;rw[Rt])
  |wp_step)
 split
 ·rename_i c yN;exact absurd yN (KL c)
 unfold instanceDict
 repeat (first
  |(with_reducible refine wpAny_loadPart_at ho ?_;rw[hc])
  |with_reducible refine wpAny_loadPart_at hC ?_
  |wp_step)
 rw[pS]
 repeat (first
  |(with_reducible refine wpAny_nsGet JE.ns ?_;rw[hv])
  |wp_step)
 exact hq
theorem QW{R:Result->Shared->Prop}(FB:ExcAttrBase B bm)(hC:h.get? C=some (excClassObj nm q C N bs bm true sn sub ab col dd k0 k1 k2 k3 k5 newId))(hn:h.Ns N mN)(Rt:mN name=none)(lk:typeLookup (.type B) name=pure none)
  (ho:h.get? x=some o) (hc:o.cls= .ref C) (pS:o.dict=some dx) (KL:∀c,o.data≠ .cls c) (JE:h.Ns1 dx mA) (hv:mA name=some v) (hq:R (.ok (.ret v)) ⟨h,g,d,t,os⟩):
  codeAny (model prog w) A (.call (.builtin "BaseException.__getattribute__") ⟨[.ref x,.str name tk],[]⟩) R ⟨h,g,d,t,os⟩:=
 codeAny_call_builtin FB.ga.plain PySem.F.entry_bexc_ga (wpAny_check_ga_own FB hC .base ho hc (Nv FB hC hn Rt lk ho hc pS KL JE hv hq))
theorem VS{fill:Bool}{Q:Value->Shared->Prop}(FB:ExcAttrBase B bm)(hC:h.get? C=some (excClassObj nm q C N bs bm true sn sub ab col dd k0 k1 k2 k3 k5 newId))(hn:h.Ns N mN)(Zd:mN "__getattribute__"=none)(Zc:mN "__getattr__"=none)(Rt:mN name=none)
  (lk:typeLookup (.type B) name=pure none) (ho:h.get? x=some o) (hc:o.cls= .ref C) (pS:o.dict=some dx) (KL:∀c,o.data≠ .cls c) (JE:h.Ns1 dx mA) (hv:mA name=some v) (hh:handedOut v=pure v) (hq:Q v ⟨h,g,d,t,os⟩):
  wpAny (model prog w) A (getAttrBy (.ref x) (.str name tk) fill expr) Q E ⟨h,g,d,t,os⟩:=by
 have f3:=FB.ga.bind (.ref x);have y0:(expr&&onTheHeap (Value.builtin "BaseException.__getattribute__"))=false:=by cases expr<;>rfl
 have y2:(Value.builtin "BaseException.__getattribute__"==Value.builtin "object.__getattribute__")=false:=by decide +kernel
 have y1:(onTheHeap (Value.ref C)&&Value.builtin "BaseException.__getattribute__"==Value.builtin "object.__getattribute__")=false:=by rw[y2];rfl
 repeat (any_goals (first
  |assumption
  |(with_reducible refine wpAny_loadPart_at ho ?_;rw[hc])
  |(with_reducible refine wpAny_typeLookup_exc hC hn FB.mro FB.ga.lookup ?_;rw[Zd])
  |(with_reducible refine wpAny_typeLookup_exc hC hn FB.mro FB.noGetattr ?_;rw[Zc])
  |wp_step))
 refine QW FB hC hn Rt lk ho hc pS KL JE hv ?_
 repeat (any_goals (first|assumption|rw[hh]|wp_step))
theorem QX{Q:Value->Shared->Prop}(FB:ExcAttrBase B bm)(hC:h.get? C=some (excClassObj nm q C N bs bm true sn sub ab col dd k0 k1 k2 k3 k5 newId))(hn:h.Ns N mN)(Zd:mN "__getattribute__"=none)(Zc:mN "__getattr__"=none)(Rt:mN name=none)
  (lk:typeLookup (.type B) name=pure none) (ho:h.get? x=some o) (hc:o.cls= .ref C) (pS:o.dict=some dx) (KL:∀c,o.data≠ .cls c) (JE:h.Ns1 dx mA) (hv:mA name=some v) (hh:handedOut v=pure v) (hq:Q v ⟨h,g,d,t+1,os⟩):
  wpAny (model prog w) A (getAttr (.ref x) name expr) Q E ⟨h,g,d,t,os⟩:=by
 unfold getAttr
 repeat (any_goals (first
  |assumption
  |with_reducible apply VS FB hC hn Zd Zc Rt lk ho hc pS KL JE hv hh
  |wp_step))
end
section
variable {E:Value->Shared->Prop} {C N fI e:Addr} {o:Obj} {u:Value}
theorem HE{Q:Value->Shared->Prop}(F:bU K "__init__" "CannotGoOn.__init__" bK fI fd)(b:Binds K fd ["self","place"] [])(KX:K.In s.heap)(lim:s.heap.NoLimit)(Rq:A.depth<recursionLimit)(X:ExcAt s.heap C N fI)
  (ho:s.heap.get? e=some o) (hc:o.cls= .ref C) (WC:o.dict=none) (KL:∀c,o.data≠ .cls c)
  (k:∀h' tk dx,(∀b v,b≠e->s.heap.get? b=some v->h'.get? b=some v)->s.heap.objs.size<=dx->h'.get? e=some {o with dict:=some dx}->h'.Ns1 dx (λy=>if y=("place":Str)then some u else none)->Q .none {s with heap:=h',toks:=tk}):
  wpAny (model P w) A (call (.ref fI) [.ref e,u]) Q E s:=by
 obtain⟨oc,od,kV,doc,pm,an,bG,ct,DN,rfl,lk,yN⟩:=F.ex;have hb:=b s [.ref e,u] KX rfl;refine wpAny_call (Att.Uw KX lim lk yN Rq hb (by rfl) (λs1 x=>?_) rfl rfl rfl);obtain⟨⟨h1,tk1,e1⟩,ns,kp,_⟩:=x.toInCall;subst e1;obtain⟨nm,q,bs,sn,sub,ab,col,dd,k0,k1,k2,k3,k5,hC⟩:=(X.keeps kp).ob;obtain⟨mN,hn,_,JE,T_,_⟩:=(X.keeps kp).ns;show wpAny _ _ (execs [.Assign [.Attribute (.Name "self" _) "place" _] (.Name "place" _) _] _) _ _ _;refine wpAny_execs_cons (plainObj_wpAny_Assign_Attribute (wpAny_Name (wpAny_loadName_local rfl rfl ns rfl ?_) (by decide)));refine wpAny_Name (wpAny_loadName_local rfl rfl ns rfl ?_) (by decide);have sz:s.heap.objs.size<=h1.objs.size:=by
  have:=x.toInCall.fresh;exact a8 this (qj ns.lt)
 refine KY PySem.F.store_Exception hC hn JE T_ Im (kp _ _ ho) hc WC KL λh2 Vm a1 a2 a3=>?_
 refine wpAny_execs_nil ?_;exact k h2 Vm h1.objs.size (λb v GY ev=>a1 b v GY (kp _ _ ev)) sz a2 a3
end
section
variable {M:Model} {E:Value->Shared->Prop} {env:Env}
variable {nm q:Str} {C N:Addr} {bs bm:List Value} {hdct:Bool} {sn:List Str} {sub:List Value} {ab:Bool} {col:Option Bool} {dd:Option Addr} {k0 k1 k2 k3 k5:Option Value} {newId:String}
theorem J4{x:Sem Value}{Q:Flow->Shared->Prop}(j9:bm.contains (.type "BaseException")=true)(hh:A.handled=none)
  (h:wpAny M A x (λv s1=>∃e o vs,v= .ref e/\s1.heap.get? C=some (excClassObj nm q C N bs bm hdct sn sub ab col dd k0 k1 k2 k3 k5 newId)/\s1.heap.get? e=some o/\o.cls= .ref C/\o.data= .fields vs/\vs[1]? =some .none/\E (.ref e) s1) E s):
  wpAny M A (raiseStmt env (some x) none) Q E s:=by
 have hcB:(Value.ref C::bm).contains (.type "BaseException")=true:=by rw[List.contains_cons,j9,Bool.or_true]
 unfold raiseStmt;refine wpAny_bind (wpAny_mono h (λv s1 z=>?_) λ_ _ y=>y);obtain⟨e,o,vs,rfl,hC,he,RA,hda,h1,hE⟩:=z;obtain⟨hp,g,d,tk,os⟩:=s1;dsimp only at hC he
 repeat (first
  |(with_reducible refine wpAny_loadPart_at he ?_;rw[RA])
  |with_reducible refine wpAny_loadPart_at hC ?_
  |(with_reducible refine wpAny_isSubtype_exc hC ?_;rw[hcB])
  |with_reducible refine wpAny_field he hda h1 ?_
  |wp_step)
 exact wpAny_raiseNew_none hh hE
end
structure Bq(K:Frag)(mg:Str->Option Value)(C N fI:Addr)(fd:FuncData):Prop where
 cls:∀h:Heap,K.In h->ExcAt h C N fI
 fn:bU K "__init__" "CannotGoOn.__init__" bK fI fd
 bd:Binds K fd ["self","place"] []
 kp:keepIn K (.ref C)=true
 nm:mg "CannotGoOn"=some (.ref C)
inductive IRa(E:XK)(v:V)(H:Hp):Prop
 |mk (p:Int) (e:v= .int p) (q:∀a,E (.int p 0) (some a) H):IRa E v H
def Vq(E:XK)(te:TE):TS:=λ_ σ H=>te σ H (IRa E)
theorem G7:(A.under (.builtin "type.__call__" ⟨.ref C::us,[]⟩)).depth=A.depth+1:=AB
theorem lY{X:Cx}{e:Expr}(R:Bq X.K X.mg C N fI fd)(hp:Passes (gq X.prog X.w C) X E)(hr:dR 1 X.A)(he:PE X e te)
  (hg:Gl X "CannotGoOn":=by rfl) (sI:starEach [e] X.env=[(false,eval e X.env)]:=by rfl):PS X (.Raise (some (.Call (.Name "CannotGoOn" np) [e] [] iu)) none pos) (Vq E te):=by
 intro pins s σ H D I h;rw[arm_exec_Raise];refine wpAny_bind (wpAny_standAt ?_);have XB:=R.cls _ I.ok.mod.UU;obtain⟨nm,q,bs,sn,sub,ab,col,dd,k0,k1,k2,k3,k5,hC0⟩:=XB.ob;refine J4 (C:=C) (nm:=nm) (q:=q) (N:=N) (bs:=bs) (bm:=WV) (hdct:=true) (sn:=sn) (sub:=sub) (ab:=ab) (col:=col) (dd:=dd) (k0:=k0) (k1:=k1) (k2:=k2) (k3:=k3) (k5:=k5) (newId:="Exception.__new__") (by decide) hr.hd ?_;refine wpAny_bind (wpAny_mono (wpAny_Call_Name_kw (nQ I hg R.nm ?_)) (λv s3 z=>wpAny_bind (wpAny_standAt (wpAny_pure z))) λ_ _ z=>z);have ha:PA X [e] (d5 te gj):=aa he aj sI;refine PySem.W.callWith_K (h₀:=X.base) I.ok.mod.UU R.kp (c_ (ha iu pins s σ H (λvs H1=>match vs with|[v]=>IRa E v H1|_=>False) I h) λus s1 z=>?_) sI rfl;obtain⟨vs,H1,I1,rv,z⟩:=z;refine⟨I1.yM,?_⟩;rcases vs with _|⟨v,_|_⟩
 ·exact z.elim
 rotate_left
 ·exact z.elim
 obtain⟨u,rfl,ru⟩:=Vals.one rv;obtain⟨p,ev,hE⟩:=z;subst ev;obtain⟨tu,rfl⟩:=ru;obtain⟨h1,g1,d1,t1,os1⟩:=s1;have X1:=XB.keeps I1.bk;obtain⟨mN,hn,hi,_⟩:=X1.ns;obtain⟨oI,hI,hIc⟩:=X1.fn;have hC1:h1.get? C=_:=I1.bk _ _ hC0;show wpAny (model X.prog X.w) X.A (call (.ref C) [.int p tu]) _ _ _;refine wpAny_call_exc_init PySem.F.excBase_Exception hC1 hn hi hI hIc (λh2 a hm=>?_) (by show 1<=sizeLine;decide);obtain⟨t0,ho,_,_⟩:=hm.there;have YH:C≠a:=λz=>by
  have:=hm.new;rw[<-z,hC1]at this;cases this
 have lt2:a<h2.objs.size:=Heap.lt_size ho;refine HE (s:=⟨h2,g1,d1,t1,os1⟩) R.fn R.bd (I1.yM.keeps hm.keeps) (I1.nolimit.keeps hm.keeps) (by rw[G7];have:=hr.dp;omega) (X1.keeps hm.keeps) ho rfl rfl (λc z=>by cases z) λh3 tk dx a1 a2 a3 a4=>⟨rfl,?_⟩
 have Rj:∀b v,h1.get? b=some v->h3.get? b=some v:=λb v e=>a1 b v (λz=>by rw[z,hm.new]at e;cases e) (hm.keeps b v e)
 have sdx:h1.get? dx=none:=by
  cases z:h1.get? dx with
  |none=>rfl
  |some v=>exact absurd (Heap.lt_size (hm.keeps _ _ z)) (Nat.not_lt.mpr a2)
 have hda:dx≠a:=λz=>by
  rw[z]at a2;exact absurd lt2 (Nat.not_lt.mpr a2)
 refine⟨a,_,_,rfl,Rj _ _ hC1,a3,rfl,rfl,rfl,?_⟩;refine hp pins σ H1 ⟨h1,g1,d1,t1,os1⟩ (.ref a) _ I1 ⟨a,dx,none,p,H1,rfl,rfl,I1.bare,Un.kept Rj,I1.cM.kept Rj,⟨⟨_,_,a3,rfl⟩,λT z=>by cases z⟩,hm.new,λT z=>(by cases z),Mu I1.cM hm.new,λT z=>(by cases z),⟨sdx,hda,(by simp),Mu I1.cM sdx⟩,⟨_,tu,a4,ai rfl,?_⟩,hE a⟩;exact Within.cons _ _ Within.nil
theorem uR{E:Value->Shared->Prop}{Q:Unit->Shared->Prop}(I:L2.Inv X pins σ H s)(hN:X.N.Nodup)(hi:X.N[i]? =some x)(hk:X.env.scope.names.lookup x=some .local)
  (k:∀s',L2.Inv X pins (σ.set i none) H s'->Q () s'):wpAny M A (do bindName X.env x .none;unbindBehindTheSuite X.env x pos) Q E s:=by
 obtain⟨m,hn,hl⟩:=id I.loc;have WD:(X.env.scope.kind== .class||(X.env.scope.kind== .module&&X.env.locals != X.env.globals))=false:=by rw[I.ok.kind];rfl
 refine wpAny_nameGoes_keeps hk hn WD λh' v Xp hs=>?_
 obtain⟨oL,_,_,hoL,_⟩:=id hn;have Xl:∀b o,X.BS.heap.get? b=some o->b≠X.env.locals:=λb o e=>Nat.ne_of_lt (dh (Heap.lt_size e) I.ok.above)
 have PN:mm X.prog X.w H h':=λb ob e=>by
  refine(I.cM b ob e).ED (λc w' hc z=>(hs.2 c ?_).trans z) (λ_ z=>z) λ_ _ z=>z
  rintro rfl
  rcases hc with rfl|hc
  ·rw[I.free]at e;cases e
  ·rw[I.free]at hc;cases hc
 refine k _ ⟨I.ok,I.os,I.bare,⟨λb o e n hb hx=>?_,λb o e n hb hx=>?_,I.base.free,λb o e hx=>?_,I.base.xS,I.base.wF,I.base.xT⟩,⟨_,Xp,λj y u e1 e2 e3=>?_⟩,λy c e=>?_,I.free,I.jv,λp hp=>?_,PN,by rw[List.length_set];exact I.len⟩
 ·exact(hs.2 b (Xl b o e)).trans (I.base.keep b o e n hb hx)
 ·obtain⟨sl,z⟩:=I.base.slot b o e n hb hx;exact⟨sl,(hs.2 b (Xl b o e)).trans z⟩
 ·obtain⟨o',z⟩:=I.base.there b o e hx;exact⟨o',(hs.2 b (Xl b o e)).trans z⟩
 ·by_cases hj:j=i
  ·subst hj;have eP:j<σ.length:=by
    have:=(List.getElem?_eq_some_iff.mp e2).1;rw[List.length_set]at this;exact this
   rw[gr eP]at e2;cases e2
  ·rw[List.getElem?_set_ne (Ne.symm hj)]at e2;obtain⟨u',r',z⟩:=hl j y u e1 e2 e3;refine⟨u',r',?_⟩;rcases z with⟨z1,z2⟩|⟨z1,c,z2,z3⟩
   ·refine .inl ⟨z1,?_⟩;have:y≠x:=λe=>hj (uH hN e1 (e▸hi))
    show(if y=x then v else m y)=_;rw[ah this];exact z2
   ·exact .inr ⟨z1,c,z2,z3.sameBut hs (I.Uv y c z2)⟩
 ·obtain⟨u,z⟩:=I.cell y c e;exact⟨u,z.sameBut hs (I.Uv y c e)⟩
 ·obtain⟨e,n,ne,nf,dd⟩:=I.pin p hp;exact⟨(hs.2 p.1 ne).trans e,n,ne,nf,dd⟩
def IP(C a dx:Addr):HO:=.ext λh=>∃(sl:Array (Option Value)) (vs:Array Value),h.get? a=some ⟨.ref C,some dx,.fields vs,sl⟩
def Pt(p:Int):List (Str×V):=[(("place":Str),V.int p)]
def Vr(C:Addr)(te:TE):TE:=λσ H Q=>te σ H λv H1=>∃(a dx:Addr) (p:Int),v= .ref a/\H1 a=some (IP C a dx)/\H1 dx=some (.xd (Pt p))/\Q (.int p) H1
theorem QC{X:Cx}{e:Expr}(R:Bq X.K X.mg C N fI fd)(he:PE X e te)(hb:attributeBase e "place" X.env (eval e X.env)=eval e X.env:=by rfl):PE X (.Attribute e "place" pos) (Vr C te):=by
 intro pins s σ H Q I h;refine MN hb (c_ (he pins s σ H _ I h) λu s1 ⟨x,H1,I1,rx,a,dx,p,ex,ea,ed,q⟩=>?_);subst ex;cases rx;have X1:=R.cls _ I1.yM;obtain⟨nm,q',bs,sn,sub,ab,col,dd,k0,k1,k2,k3,k5,hC⟩:=X1.ob;obtain⟨mN,hn,_,_,T_,Zd,Zc⟩:=X1.ns;obtain⟨⟨sl,vs,ho⟩,_⟩:=(show dO X.prog X.w H1 s1.heap a (IP C a dx)from I1.cM a _ ea);obtain⟨mA,JE,hr⟩:=(show dO X.prog X.w H1 s1.heap dx (.xd (Pt p))from I1.cM dx _ ed);have hv:=hr "place";have e1:(Pt p).lookup ("place":Str)=some (.int p):=by
  unfold Pt;rw[List.lookup_cons,beq_self_eq_true]
 rw[e1]at hv;cases em:mA "place" with
 |none=>rw[em]at hv;exact absurd hv (by simp[oP])
 |some v=>
  rw[em]at hv;obtain⟨t,rfl⟩:=(show RelV (.int p) v from hv);obtain⟨h1,g1,d1,t1,os1⟩:=s1;exact QX PySem.F.attrBase_Exception hC hn Zd Zc T_ Im ho rfl rfl (λc z=>by cases z) JE em rfl ⟨.int p,H1,I1.tok _,⟨t,rfl⟩,q⟩
abbrev Cx.over(X:Cx)(pn:List (Addr×Obj))(A:Around)(calm:Bool)(E:Value->Shared->Prop):Cx:={X with pn:=pn,A:=A,calm:=calm,xe:=E}
theorem Me{X:Cx}(ok:X.Ok)(pn:List (Addr×Obj))(E:Value->Shared->Prop):(Cx.over X pn X.A X.calm E).Ok:=
 ⟨ok.mod,ok.kind,ok.glob,ok.blt,ok.above,ok.inj,ok.has,ok.W6,ok.hd,ok.frames,ok.om,ok.XE,ok.bs,ok.R8,ok.Kp,ok.K3,ok.oM,ok.Uh⟩
theorem Tz{X:Cx}(ok:X.Ok)(pn:List (Addr×Obj))(v:Option Value)(E:Value->Shared->Prop):(Cx.over X pn (X.A.mark v) false E).Ok:=
 ⟨ok.mod,ok.kind,ok.glob,ok.blt,ok.above,ok.inj,ok.has,ok.W6,(λz=>by cases z),ok.frames,ok.om,ok.XE,ok.bs,ok.R8,ok.Kp,ok.K3,ok.oM,ok.Uh⟩
section
variable {X:Cx} {pins:List (Addr×Obj)} {σ:L2.St} {E:Value->Shared->Prop}
theorem Rk(I:L2.Inv X pins σ H s)(E:Value->Shared->Prop):L2.Inv (Cx.over X (X.pn++pins) X.A X.calm E) [] σ H s:=
 ⟨Me I.ok _ E,I.os,I.bare,I.base,I.loc,I.cell,I.free,I.jv,λp hp=>I.pin p (by simpa using hp),I.cM,I.len⟩
theorem ip{c:Bool}{ps:List (Addr×Obj)}(I:L2.Inv (Cx.over X (X.pn++pins) A c E) ps σ H s)(ok:X.Ok):L2.Inv X pins σ H s:=
 ⟨ok,I.os,I.bare,I.base,I.loc,I.cell,I.free,I.jv,λp hp=>I.pin p (List.mem_append_left _ hp),I.cM,I.len⟩
theorem IA{v:Option Value}(I:L2.Inv X pins σ H s)(E:Value->Shared->Prop):L2.Inv (Cx.over X (X.pn++pins) (X.A.mark v) false E) [] σ H s:=
 ⟨Tz I.ok _ v E,I.os,I.bare,I.base,I.loc,I.cell,I.free,I.jv,λp hp=>I.pin p (by simpa using hp),I.cM,I.len⟩
end
def Sd(i:Nat)(D:Ends):Ends:={nx:=λσ H=>D.nx (σ.set i none) H,rt:=D.rt,bk:=λσ H=>D.bk (σ.set i none) H,ct:=λσ H=>D.ct (σ.set i none) H}
def abf(i:Nat)(C:Addr)(Ex:XK)(tb ts:TS):TS:=λD σ H=>tb D σ H/\∀(p:Int) (a dx:Addr) (σ1:L2.St) (H':Hp),σ1.length=σ.length->Ex (.int p 0) (some a) H'->H' a=none->H' dx=none->dx≠a->
 ts (Sd i D) (σ1.set i (some (.ref a))) (upd (upd H' dx (.xd (Pt p))) a (IP C a dx))
theorem VM{X:Cx}{n:Str}(R:Bq X.K X.mg C N fI fd)(Rp:X.stack=X.env::X.outer)(KO:X.env.frame=some X.env.locals)(hN:X.N.Nodup)(hi:X.N[i]? =some n)
  (hk:X.env.scope.names.lookup n=some .local) (hg:Gl X "CannotGoOn")
  (hb:∀(pn:List (Addr×Obj)) (E':Value->Shared->Prop),Passes (gq X.prog X.w C) (Cx.over X pn X.A X.calm E') Ex->JH (Cx.over X pn X.A X.calm E') body tb)
  (hs:∀(pn:List (Addr×Obj)) (A':Around),JH (Cx.over X pn A' false λ_ _=>False) (b0::X0) ts):
  PS X (.Try body [.ExceptHandler (some (.Name "CannotGoOn" np)) (some n) (b0::X0) Oa] [] [] pos) (abf i C Ex tb ts):=by
 intro pins s σ H D I h;obtain⟨h1,h2⟩:=h;have ok:=I.ok;rw[arm_exec_Try];refine wpAny_bind (wpAny_standAt (wpAny_tryStmt_except ?_));have pass:Passes (gq X.prog X.w C) (Cx.over X (X.pn++pins) X.A X.calm λe s'=>∃(ps:List (Addr×Obj)) (σ1:L2.St) (H1:Hp) (s1:Shared),L2.Inv (Cx.over X (X.pn++pins) X.A X.calm λ_ _=>False) ps σ1 H1 s1/\gq X.prog X.w C X.stack H1 s1 Ex e s') Ex:=by
  intro ps σ1 H1 s1 e s' I1 c;exact⟨ps,σ1,H1,s1,⟨Me ok _ _,I1.os,I1.bare,I1.base,I1.loc,I1.cell,I1.free,I1.jv,I1.pin,I1.cM,I1.len⟩,c⟩
 refine wpAny_mono (hb _ _ pass [] s σ H D (Rk I _) h1) (λf s1 z=>?_) λe s' z=>?_
 ·cases f with
  |next=>
   obtain⟨σ',H',I',q⟩:=z;exact wpAny_execs_nil ⟨σ',H',ip I' ok,q⟩
  |ret u=>
   obtain⟨v,σ',H',I',r,q⟩:=z;exact⟨v,σ',H',ip I' ok,r,q⟩
  |brk=>
   obtain⟨σ',H',I',q⟩:=z;exact⟨σ',H',ip I' ok,q⟩
  |cont=>
   obtain⟨σ',H',I',q⟩:=z;exact⟨σ',H',ip I' ok,q⟩
 ·obtain⟨ps,σ1,H1,s1,I1',a,dx,tb',p,H',rfl,Y_,RD,un,cM,fl,ha,hT,na,nT,⟨hd1,hd2,hd3,hd4⟩,⟨mA,tm,n1,n2,n3⟩,hE⟩:=z;have I1:L2.Inv X pins σ1 H1 s1:=ip I1' ok;have Mf:∀b:Addr,b ∉ ([]:List Addr):=λb=>by simp
  have frH:∀b∈oN X.stack,H' b=none:=λb hb=>by
   obtain⟨_,o,ho,_⟩:=I1.stack.mem hb;exact un.free b o ho (I1.qt b hb) (Mf b)
  have oM:s'.heap.FunFrames X.base (X.env::X.outer):=by
   have:=I1.stack;rw[Rp]at this;exact sL this λb hb o ho=>un.any ho (I1.qt b (by rw[Rp];exact hb)) (Mf b)
  have frames:X.A.frames=some (X.env::X.outer):=by rw[<-Rp];exact ok.frames
  have ext:∀b o,s1.heap.get? b=some o->b≠a/\tb'≠some b/\b≠dx:=λb o e=>by
   refine⟨λq=>?_,λq=>?_,λq=>?_⟩
   ·rw[q,ha]at e;cases e
   ·rw[hT b q]at e;cases e
   ·rw[q,hd1]at e;cases e
  have good:∀(h5:Heap) (T:Addr) (t5:Nat),s'.heap.objs.size<=T->vo h5 a C dx (some T) .none->Kept s'.heap h5 (oN (X.env::X.outer)) a tb'->
    L2.Inv X pins σ1 (upd (upd H' dx (.xd (Pt p))) a (IP C a dx)) {s' with heap:=h5,toks:=t5}:=by
   intro h5 T t5 UZ F5 K5;have PN:∀b o,H' b=some o->b≠a/\b≠dx:=λb o e=>⟨λq=>(by rw[q,na]at e;cases e),λq=>(by rw[q,hd4]at e;cases e)⟩
   have old:∀b o,H' b=some o->(upd (upd H' dx (.xd (Pt p))) a (IP C a dx)) b=some o:=λb o e=>by
    obtain⟨q1,q2⟩:=PN b o e;rw[ao q1,ao q2];exact e
   have fs:oN X.stack=oN (X.env::X.outer):=by rw[Rp]
   have nfr:∀b,b∈oN (X.env::X.outer)->b≠dx:=λb hb q=>by
    rw[<-fs]at hb;obtain⟨_,o,ho,_⟩:=I1.stack.mem hb;exact(ext b o ho).2.2 q
   have kT:∀b o u,H' b=some o->s'.heap.get? b=some u->h5.get? b=some u:=λb o u GY e=>by
    refine K5.keep b u (λq=>?_) (PN b o GY).1 (λq=>?_) e
    ·rw[<-fs]at q;rw[frH b q]at GY;cases GY
    ·rw[nT b q]at GY;cases GY
   have kd:∀u,s'.heap.get? dx=some u->h5.get? dx=some u:=λu e=>K5.keep dx u (λq=>nfr dx q rfl) hd2 hd3 e
   have un2:Un (oN X.stack) [] H1 (upd (upd H' dx (.xd (Pt p))) a (IP C a dx)) s1.heap h5:=by
    refine⟨λb o e nn GY hx=>?_,λb o e nn GY hx=>?_,λb o e nn hx=>?_,λb o e hx=>?_,λb xs e=>old b _ (un.xS b xs e),λb o xs e=>old b _ (un.wF b o xs e),λb qs e=>?_⟩
    ·obtain⟨q1,q2,_⟩:=ext b o e;exact K5.keep b o (by rw[<-fs];exact GY) q1 q2 (un.keep b o e nn GY hx)
    ·obtain⟨q1,q2,_⟩:=ext b o e;obtain⟨sl,e2⟩:=un.slot b o e nn GY hx;obtain⟨sl2,e3⟩:=K5.slot b _ q1 q2 e2;exact⟨sl2,e3⟩
    ·obtain⟨q1,_,q3⟩:=ext b o e;rw[ao q1,ao q3];exact un.free b o e nn hx
    ·obtain⟨q1,q2,_⟩:=ext b o e;obtain⟨o2,e2⟩:=un.there b o e hx;obtain⟨sl2,e3⟩:=K5.slot b _ q1 q2 e2;exact⟨_,e3⟩
    ·obtain⟨m2,e2⟩:=un.xT b qs e;exact⟨m2,old b _ e2⟩
   have abP:mm X.prog X.w (upd (upd H' dx (.xd (Pt p))) a (IP C a dx)) h5:=by
    intro b o e;by_cases q1:b=a
    ·subst q1;rw[af]at e;cases e;obtain⟨sl,vs,e5,_⟩:=F5.ex;refine⟨⟨sl,vs,e5⟩,⟨_,e5⟩,λg1 g2 ⟨Xh,vs',e6⟩ st=>⟨Xh,vs',st _ e6⟩⟩
    ·rw[ao q1]at e;by_cases q2:b=dx
     ·subst q2;rw[af]at e;cases e;refine⟨mA,Ii n1 kd,λf=>?_⟩;unfold Pt;rw[List.lookup_cons];by_cases qf:f=("place":Str)
      ·rw[qf,beq_self_eq_true,n2];exact⟨tm,rfl⟩
      ·rw[beq_eq_false_iff_ne.mpr qf];cases em:mA f with
       |none=>trivial
       |some v=>
        exfalso;have z:=n3 f (by rw[em];exact λy=>by cases y);exact qf (List.mem_singleton.mp z)
     ·rw[ao q2]at e;refine(cM b o e).ED (λc v hc z=>?_) (λc z=>old c _ z) λc xs z=>old c _ z
      rcases hc with hc|hc
      ·rw[hc]at z ⊢;exact kT b o v e z
      ·exact kT c _ v hc z
   exact I1.Ve Y_ un2 abP RD λb z=>absurd z (Mf b)
  refine DS (base:=X.base) frames oM KO fl λh4 T UZ F4 K4=>?_
  refine wx (s:={s' with heap:=h4}) F4 λh5 F5 k5 z5=>?_
  have nTb:∀b o,s'.heap.get? b=some o->b≠T:=λb o e q=>by
   have:=Heap.lt_size e;rw[q]at this;exact absurd this (Nat.not_lt.mpr UZ)
  have lands:∀h6:Heap,(∀b o,b≠T->h4.get? b=some o->h6.get? b=some o)->h6.objs.size=h4.objs.size->Kept s'.heap h6 (oN (X.env::X.outer)) a tb':=λh6 k6 z6=>
   ⟨λb o e1 e2 e3 e4=>k6 b o (nTb b o e4) (K4.keep b o e1 e2 e3 e4),λb o e2 e3 e4=>(by obtain⟨sl,e⟩:=K4.slot b o e2 e3 e4;exact⟨sl,k6 b _ (nTb b o e4) e⟩),by rw[z6];exact K4.size⟩
  have I5:=good h5 T s'.toks UZ F5 (lands h5 k5 z5);have X5:=R.cls _ I5.yM;obtain⟨nm,q',bs,sn,sub,ab,col,dd,k0,k1,k2,k3,k5',hC5⟩:=X5.ob;obtain⟨sl5,vs5,ho5,_⟩:=F5.ex;refine wpAny_handleBy_cons (codeAny_handlers_test ?_) (by intro z;cases z);refine nQ (X:=Cx.over X (X.pn++pins) (X.A.mark (some (.ref a))) false λ_ _=>False) (IA I5 _) hg R.nm ?_;obtain⟨hp',g',d',Sv,os'⟩:=s';refine wpAny_excMatches_sub_self hC5 ho5 rfl (by decide) ?_;refine codeAny_handlers_suite_as ?_;refine wx (s:=⟨h5,g',d',Sv,os'⟩) F5 λh6 F6 k6 z6=>?_
  have I6:=good h6 T Sv UZ F6 (lands h6 (λb o e1 e2=>k6 b o e1 (k5 b o e1 e2)) (z6.trans z5));refine tO (X:=Cx.over X (X.pn++pins) (X.A.mark (some (.ref a))) false λ_ _=>False) (v:=.ref a) (IA I6 _) hN hi (.inl hk) rfl (λs7 I7=>?_) (.inr hk);have z:=hs (X.pn++pins) (X.A.mark (some (.ref a))) [] s7 _ _ (Sd i D) I7 (h2 p a dx σ1 H' (by rw[I1.len,I.len]) hE na hd4 hd2);refine wpAny_mono z (λf s8 y=>?_) λ_ _ y=>False.elim y
  cases f with
  |next=>
   obtain⟨σ',H2,I8,q⟩:=y;exact uR (ip I8 ok) hN hi hk λs9 I9=>⟨_,H2,I9,q⟩
  |ret u=>
   obtain⟨v,σ',H2,I8,r,q⟩:=y;exact uR (ip I8 ok) hN hi hk λs9 I9=>⟨v,_,H2,I9,r,q⟩
  |brk=>
   obtain⟨σ',H2,I8,q⟩:=y;exact uR (ip I8 ok) hN hi hk λs9 I9=>⟨_,H2,I9,q⟩
  |cont=>
   obtain⟨σ',H2,I8,q⟩:=y;exact uR (ip I8 ok) hN hi hk λs9 I9=>⟨_,H2,I9,q⟩
end Fk
namespace Fk
open PySem PySem.Spec PyProof.Rows L2
open PySem.W (Codec Frag nsIn keepIn mg_of fnOf findIn)
open Sf84 (Bytes Toks nums trimmed reckoned weight stepped)
variable {P:Program} {w:World} {K:PySem.W.Frag} {mg:Str->Option Value} {base:Heap} {fd:FuncData} {f:Addr} {C:Addr} {H:Hp} {H':Hp} {a:Addr} {x:Str} {s:Shared} {Q:VK} {CF:Addr} {xs:List V} {r:Sf84.Toks} {n:Nat} {k:Nat} {i:Nat} {h:Heap} {E:XK} {as:List Addr} {rs:List Addr} {bD:List (Key×V)} {st:Stmt} {ps:List Str} {sp:Sp} {CX:JI} {c:Sf84.Code} {A:Around} {v:V} {dx:Addr} {CR:Addr} {CT:Addr} {l:Addr} {p:Nat} {o:Nat} {e:Nat} {d:Nat}
def jg(K:Frag)(w:World)(a:Addr)(bD:List (Key×V)):Prop:=∀(P:Program) (h:Heap),K.In h->(a==sysModules)=false/\∃vs,KV bD vs/\h.DictOf (dZ P w) a vs
section
variable {X:Cx} {o i:Expr} {td ty:TE} {pos:Pos}
inductive IKG(bD:List (Key×V))(a:Addr)(Q:VK)(x y:V)(H:Hp):Prop
 |mk (k:Key) (v:V) (e:x= .ref a) (f:y=kV k) (g:jh bD k=some v) (q:Q v H):IKG bD a Q x y H
def XT(bD:List (Key×V))(a:Addr)(td ty:TE):TE:=λσ H Q=>td σ H λx H1=>ty σ H1 (IKG bD a Q x)
def abh(bD:List (Key×V))(a:Addr)(ty td:TE):TE:=λσ H Q=>ty σ H λy H1=>td σ H1 λx H2=>∃k,x= .ref a/\y=kV k/\Q (.bl (jh bD k).isSome) H2
def S0(bD:List (Key×V))(a:Addr)(ty td:TE):TE:=λσ H Q=>ty σ H λy H1=>td σ H1 λx H2=>∃k,x= .ref a/\y=kV k/\Q (.bl (!(jh bD k).isSome)) H2
theorem QL(D:jg X.K X.w a bD)(hi:PE X i ty)(ho:PE X o td):PC X .In i o (abh bD a ty td):=by
 intro pins s σ H Q I h;refine bin hi ho I h λv u s2 x y H2 I2 rx ry q=>?_
 obtain⟨k,ea,ek,q⟩:=q;subst ea ek;cases ry;obtain⟨hd,vs,rel,dd⟩:=D X.prog _ I2.yM;refine wpAny_in_of (DY rx) hd dd.mapOf ?_;rw[<-(rel.val k).wA];exact⟨.bl _,H2,I2.tok _,rfl,q⟩
theorem Nn(D:jg X.K X.w a bD)(hi:PE X i ty)(ho:PE X o td):PC X .NotIn i o (S0 bD a ty td):=by
 intro pins s σ H Q I h;refine bin hi ho I h λv u s2 x y H2 I2 rx ry q=>?_
 obtain⟨k,ea,ek,q⟩:=q;subst ea ek;cases ry;obtain⟨hd,vs,rel,dd⟩:=D X.prog _ I2.yM;refine wpAny_notIn_of (DY rx) hd dd.mapOf ?_;rw[<-(rel.val k).wA];exact⟨.bl _,H2,I2.tok _,rfl,q⟩
theorem yK(D:jg X.K X.w a bD)(ho:PE X o td)(hi:PE X i ty)(hs:ZZ i:=by intro _ _;rfl):PE X (.Subscript o i pos) (XT bD a td ty):=by
 intro pins s σ H Q I h;refine S3 PySem.F.slot_dict_getitem.lookup hs (c_ (ho pins s σ H _ I h) λu s1 ⟨x,H1,I1,rx,q1⟩=>c_ (hi pins s1 σ H1 _ I1 q1) λiv s2 ⟨y,H2,I2,ry,q2⟩=>?_);obtain⟨k,v,ea,ek,hv,q⟩:=q2;subst ea ek;cases rx;obtain⟨hd,vs,rel,dd⟩:=D X.prog _ I2.yM;obtain⟨w',hw,VC⟩:=oP.some_of (v:=v) (o:=valueAt vs k) (by rw[<-hv];exact rel.val k);refine⟨?_,wpAny_getItem_of (DY ry) dd.mapOf hw ⟨v,H2,I2.tok _,VC,q⟩⟩;obtain⟨od,es,ep,h1,h2,_⟩:=dd;exact⟨od,h1,h2.1⟩
end
theorem bU.JA(F:bU K x qual st f fd)(S:ax N ps (ak st))(len:∀vs H Q E,sp vs H Q E->vs.length=ps.length)
  (IG:∀(bG:Value) (A:Around) (outer:List Env) (s:Shared) (H:Hp) (vs:List V) (Q:VK) (E:XK),dR k (A.deeper (envOfC qual (ak st) s.heap.objs.size f bG))->sp vs H Q E->
   ∃t,JH (CS (gq P w C) P w K mg base N qual (ak st) f bG A outer s H E) (fX st) t/\t {nx:=λ_ H'=>Q .dt H',rt:=Q} (start N vs) H):aP P w K mg base (gq P w C) (k+1) f fd ps sp:=by
 obtain⟨oc,od,kV,doc,pm,an,bG,ct,DN,rfl,lk,yN⟩:=F.ex;refine U_ lk yN S len λA outer s H vs Q E hr Px=>?_
 exact IG bG A outer s H vs Q E hr Px
theorem Oz(l b:Addr)(its qT:Array Value)(n n2:Nat)(o:Obj)(hc:o.cls= .type "tuple")(hd:o.data= .seq qT n2)(hz:its.size+qT.size<=sizeLine):
  Meets (Builtin.«list.extend» ⟨[.ref l,.ref b],[]⟩) (λ_ R s=>s.heap.get? l=some {cls:=.type "list",data:=.seq its n}/\s.heap.get? b=some o/\R (.ok (.ret .none)) {s with heap:=s.heap.update l (Obj.mapSeq λx=>x++qT)}):=by
 refine .of_wp λprog w A R s h=>?_
 obtain⟨hl,hb,h⟩:=h;show wpAny _ A.in1 (Builtin.List.listExtendWith (.ref l) (.ref b) .none) _ _ s;unfold Builtin.List.listExtendWith;refine wpAny_bind (wpAny_typeOf ⟨o,hb,hc⟩ ?_);have h1:(Builtin.List.listSameRef (.ref l) (.ref b)||Value.type "tuple"==Value.type "list"||Value.type "tuple"==Value.type "tuple")=true:=by simp
 simp only [h1,if_true];refine wpAny_bind ?_;unfold Builtin.List.listItems;refine wpAny_bind (wpAny_seqItems hb hd (wpAny_pure ?_));refine wpAny_bind ?_;refine wpAny_bind (wpAny_seqItems hl rfl (wpAny_pure ?_));have h2:¬(!its.isEmpty&&Builtin.List.listTooLong (its.size+qT.size))=true:=by
  rw[Ij hz,Bool.and_false];exact az
 rw[ah h2];show wpAny _ A.in1 (updateSeq l (· ++qT) >>= λ_=>ret .none) _ _ s;refine wpAny_bind (wpAny_updateSeq hl rfl ?_ (by omega) (by rw[Array.size_append];omega));exact wpAny_pure ⟨_,rfl,h⟩
section
variable {X:Cx}
inductive UM(x:V)(vs:List V)(H:Hp)(Q:VK):Prop
 |mk (l b:Addr) (xs zs:List V) (e:x= .ref l) (f:vs=[.ref b]) (g:H l=some (.lst xs)) (h:H b=some (.tup zs)) (i:xs.length+zs.length<=sizeLine) (q:Q .dt (upd H l (.lst (xs++zs)))):UM x vs H Q
theorem TU:MtM X "list.extend" UM:=by
 intro pins s σ H x vs v us Q I rx rv h;obtain⟨l,b,xs,zs,rfl,rfl,hH,hB,hz,q⟩:=h;cases rx;obtain⟨u,rfl,ru⟩:=rv.one;cases ru;obtain⟨z,its,n,r,hl,e⟩:=I.KA hH;obtain⟨z2,qT,r2,o2,e2,c2,n2,d2⟩:=I.cM b _ hB;have l2:=r2.length;refine call_meets F.slot_list_extend ⟨_,e,rfl⟩ F.entry_list_extend (F.args_list_extend_2 _ _)
  (Oz l b its.toArray qT.toArray n n2 o2 c2 d2 (by rw[bL,bL];omega)) ⟨e,e2,?_⟩
 refine⟨.dt,_,I.TY (its':=its++qT) hH e (by simp) (r.append r2) ?_,rfl,q⟩;rw[ba];omega
end
theorem NJ:typeLookup (.type "list_reverseiterator") "__len__"=pure none:=by rw[typeLookup_type,builtinLookup_eq_fast];kernel_rfl
theorem Rv:typeLookup (.type "list_reverseiterator") "__length_hint__"=pure (some (.builtin "list_reverseiterator.__length_hint__")):=by rw[typeLookup_type,builtinLookup_eq_fast];kernel_rfl
section
variable {prog:Program} {E:Value->Shared->Prop} {R:Result->Shared->Prop}
variable {I:Addr} {fp wr:List Addr} {G:Array GenState->Array GenState->Prop} {Pp:Nat->Value->Prop} {St:Nat->Shared->Prop}
theorem Up(Wk:WalksS prog w A.in1 I fp wr G n Pp St)(hT:∀i s,St i s->s.TypeIs (.ref I) "list_reverseiterator")(S:Addr)(res:Value)(c0:Nat)(sI:St 0 s)(WH:S ∉ fp)(hI:I∈fp)
  (hS:s.heap.get? S=some {cls:=.type "list",data:=.seq #[] c0}) (hn:n<=sizeLine)
  (hR:∀s' vk c',Moved (S::wr) G s s'->s'.heap.get? S=some {cls:=.type "list",dict:=none,data:=.seq vk c',slots:= #[]}->ItemsOf Pp vk n->R (.ok (.ret res)) s'):
  wpAny (model prog w) A.in1 (Builtin.List.listExtendWith (.ref S) (.ref I) res)
   (λfin s'=>match fin with| .done f=>R (.ok f) s'| .again c'=>c'.quiet=true/\codeAny (model prog w) A c' R s') (λe s'=>R (.error e) s') s:=by
 have Zv:S≠I:=λe=>WH (e▸hI)
 have h1:Builtin.List.listSameRef (.ref S) (.ref I)=false:=by simp[Builtin.List.listSameRef,Zv]
 unfold Builtin.List.listExtendWith;refine wpAny_bind (wpAny_typeOf (hT 0 _ sI) ?_);rw[ah (by rw[h1];decide)];refine wpAny_bind (Wk.self 0 _ _ _ sI ?_);refine wpAny_bind (wpAny_holding ?_);unfold Builtin.List.listLengthHint;refine wpAny_bind (wpAny_specialOf (hT 0 _ sI) NJ ?_);show wpAny _ A.in1 (specialOf (Value.ref I) (Str.ofString "__length_hint__") >>= _) _ _ _;refine wpAny_bind (wpAny_specialOf (hT 0 _ sI) Rv ?_)
 (generalize Wz:("list_reverseiterator.__length_hint__":String)=id0;(fail_if_success (clear Wz id0));wp_delta;rw[show splitId id0=some ("list_reverseiterator","__length_hint__")from by subst Wz;decide +kernel];subst Wz)
 refine wpAny_bind (wpAny_isInstance (b:=true) (hT 0 _ sI) (by rw[isSubtype_type];kernel_rfl) ?_);refine wpAny_pure ?_;rw[ah (by decide)];exact wpAny_pure ⟨plainId_quiet F.plain_extend_loop _,codeAny_extend_loopS Wk hn _ WH _ n 0 _ _ _ rfl (bw _) sI hS (ItemsOf.nil Pp) λs' vk c' hm Mr KR=>hR s' vk c' hm Mr KR⟩
theorem Rl(Wk:WalksS prog w A.in1 I fp wr G n Pp St)(hT:∀i s,St i s->s.TypeIs (.ref I) "list_reverseiterator")(S:Addr)(sI:St 0 s)(WH:S ∉ fp)(hI:I∈fp)
  (hS:s.heap.get? S=some {cls:=.type "list",data:=.seq #[]}) (hn:n<=sizeLine)
  (hR:∀s' vk c',Moved (S::wr) G s s'->s'.heap.get? S=some {cls:=.type "list",dict:=none,data:=.seq vk c',slots:= #[]}->ItemsOf Pp vk n->R (.ok (.ret .none)) s'):
  wpAny (model prog w) A.in1 (Builtin.«list.__init__» ⟨[.ref S,.ref I],[]⟩)
   (λfin s'=>match fin with| .done f=>R (.ok f) s'| .again c'=>c'.quiet=true/\codeAny (model prog w) A c' R s') (λe s'=>R (.error e) s') s:=by
 show wpAny _ A.in1 (do let old<-Builtin.List.listItems (.ref S);Builtin.List.listUpdate (.ref S) (λ_=> #[]);letGo old.toList.reverse;Builtin.List.listExtendWith (.ref S) (.ref I) .none) _ _ s;refine wpAny_bind ?_;unfold Builtin.List.listItems;refine wpAny_bind (wpAny_seqItems hS rfl (wpAny_pure ?_));show wpAny _ A.in1 (updateSeq S (λ_=> #[]) >>= λ_=>letGo (#[]:Array Value).toList.reverse >>= λ_=>Builtin.List.listExtendWith (.ref S) (.ref I) .none) _ _ s;refine wpAny_bind (wpAny_updateSeq hS rfl ?_);have hS2:=Heap.get?_update_self (Obj.mapSeq (λ_=>(#[]:Array Value))) hS rfl;have VT:∀b o,b≠S->s.heap.get? b=some o->(s.heap.update S (Obj.mapSeq (λ_=>(#[]:Array Value)))).get? b=some o:=
  λb o hb e=>(Heap.get?_update_other _ _ (Ne.symm hb)).trans e
 refine wpAny_bind (wpAny_letGo ?_);refine Up Wk hT S .none _ (Wk.frame 0 s _ s.toks sI (aM _) λb hb o e=>VT b o (λh=>WH (h▸hb)) e) WH hI hS2 hn λs' vk c' hm Mr KR=>?_
 exact hR s' vk c' (Moved.trans Wk.gtrans ((Moved.refl Wk.grefl).then_heap (aM _) λb o hb e=>VT b o (λh=>hb (h▸bB)) e) hm) Mr KR
theorem CW{Q:Value->Shared->Prop}(Wk:WalksS prog w A.in1.in1 I fp wr G n Pp St)(hT:∀i s,St i s->s.TypeIs (.ref I) "list_reverseiterator")(sI:St 0 s)(U3:∀b∈fp,b<s.heap.objs.size)(hI:I∈fp)(hn:n<=sizeLine)
  (hQ:∀s' vk c',Moved (s.heap.objs.size::wr) G {s with heap:=s.heap.push {cls:=.type "list",data:=.seq #[]}} s'->
   s'.heap.get? s.heap.objs.size=some {cls:=.type "list",dict:=none,data:=.seq vk c',slots:= #[]}->ItemsOf Pp vk n->Q (.ref s.heap.objs.size) s'):
  wpAny (model prog w) A (call (.type "list") [.ref I]) Q E s:=by
 have WH:s.heap.objs.size ∉ fp:=λhm=>Nat.lt_irrefl _ (U3 _ hm)
 refine callType_codes (Q₁:=λobj s₁=>obj= .ref s.heap.objs.size/\s₁={s with heap:=s.heap.push {cls:=.type "list",data:=.seq #[]}}) F.called_list (F.typeCall_list_1 _) F.entry_list_init
  (code_list_new _ ⟨rfl,rfl⟩) λobj s1 h1=>?_
 obtain⟨rfl,rfl⟩:=h1;have hS:(s.heap.push {cls:=.type "list",data:=.seq #[]}).get? s.heap.objs.size=some {cls:=.type "list",data:=.seq #[]}:=Heap.get?_push_size _ rfl;refine⟨⟨_,hS,rfl⟩,F.args_list_init_2 _ _,Rl Wk hT _ (Wk.frame 0 s _ s.toks sI (aM _) λb _ o e=>Heap.get?_push_of_some _ e) WH hI hS hn λs' vk c' hm Mr KR=>?_⟩;exact⟨rfl,hQ s' vk c' hm Mr KR⟩
end
theorem Nj{its:List Value}(h:ItemsOf (λi v=>its.toArray[its.toArray.size - 1 - i]? =some v) acc its.toArray.size):acc=its.reverse.toArray:=by
 obtain⟨h1,h2⟩:=h;apply Array.ext
 ·rw[h1];simp
 ·intro i hi1 hi2;have h3:=h2 i acc[i] (Array.getElem?_eq_getElem hi1);have hi3:i<its.length:=by simpa using hi2
  simp only [bL,List.getElem?_toArray]at h3;have h4:its.reverse[i]? =some acc[i]:=by rw[List.getElem?_reverse hi3];exact h3
  have h5:=(List.getElem?_eq_some_iff.mp h4).2;rw[<-h5];simp
section
variable {X:Cx}
def P2(K:Frag)(te:TA):TE:=λσ H Q=>te σ H λvs H1=>∃a xs,vs=[.ref a]/\bp K H1 a xs/\∀l,H1 l=none->Q (.ref l) (upd H1 l (.lst xs.reverse))
theorem J8{e:Expr}{p:Pos}(hc:X.calm=true)(hg:Gl X "list")(hm:X.mg "list"=none)(Zr:Gl X "reversed")(hm':X.mg "reversed"=none)(ha:PA X [e] ta)
  (hs':starEach [e] X.env=[(false,eval e X.env)]:=by rfl) (hs:starEach [.Call (.Name "reversed" p') [e] [] pos'] X.env=[(false,eval (.Call (.Name "reversed" p') [e] [] pos') X.env)]:=by rfl):
  PE X (.Call (.Name "list" p) [.Call (.Name "reversed" p') [e] [] pos'] [] pos) (P2 X.K ta):=by
 intro pins s σ H Q I h;refine wpAny_Call_Name_kw (nU I hg hm boot_list (PyProof.Rows.callWith_type1 ?_ hs rfl));rw[hs];refine Calls.spliced_cons ?_;refine Call_ (nU I Zr hm' Bk (PyProof.Rows.callWith_type1 (c_ (ha pos' pins s σ H _ I h) λus s1 ⟨vs,H1,I1,r1,q1⟩=>?_) hs' rfl));obtain⟨a,xs,ev,hq,q⟩:=q1;subst ev;cases r1 with
 |cons r rr=>
  cases rr;cases r;obtain⟨its,rv,pl,hz⟩:=I1.list hq;have hl:=rv.length;refine call_reversed_list pl.isList (Calls.spliced_nil ?_);obtain⟨oa,na,ea,_⟩:=id pl;have lt:a<s1.heap.objs.size:=Heap.lt_size ea;have Wk:=(Walks.listRev (prog:=X.prog) (w:=X.w) (A:=X.A.in1.in1) (I1.ok.hd hc) s1.heap.objs.size a (Nat.ne_of_lt lt) its.toArray).toS;refine CW Wk (λi s x=>x.2.1.typeIs) ⟨bw _,⟨_,Heap.get?_push_size _ rfl,rfl,?_⟩,pl.isList.push _⟩ (λb hb=>?_) (by simp) (by rw[bL];omega) λs' acc c' hm hS KR=>?_
  ·show Data.fields #[Value.ref a,rawInt ((its.toArray.size:Int) - 1)]= .fields #[Value.ref a,rawInt ((its.toArray.size:Int) - 1 - ((0:Nat):Int))];simp
  ·show b<(s1.heap.push _).objs.size;rw[Heap.size_push];rcases List.mem_cons.mp hb with rfl|hb
   ·exact Nat.lt_succ_self _
   ·rw[List.mem_singleton.mp hb];exact Nat.lt_succ_of_lt lt
  ·rw[Nj KR]at hS;rw[Moved.eq_with hm];have sz:(s1.heap.push (revObj a ((its.toArray.size:Int) - 1))).objs.size=s1.heap.objs.size+1:=Heap.size_push ..;refine⟨.ref _,_,I1.laid (a:=(s1.heap.push (revObj a ((its.toArray.size:Int) - 1))).objs.size) (o:=.lst xs.reverse) (λb o e=>hm.heap b o (λhb=>?_) (Heap.get?_push_of_some _ (Heap.get?_push_of_some _ e))) (by rw[sz];exact Nat.le_succ _) ⟨by rw[List.length_reverse];exact hz,its.reverse,c',rv.reverse,hS⟩,rfl,q _ (I1.cM.fresh (by rw[sz];exact Nat.le_succ _))⟩;have eP:=Heap.lt_size e;rcases List.mem_cons.mp hb with rfl|hb
   ·rw[sz]at eP;exact absurd (Nat.lt_of_succ_lt eP) (Nat.lt_irrefl _)
   ·rw[List.mem_singleton.mp hb]at eP;exact absurd eP (Nat.lt_irrefl _)
end
def Kr(ns:List Int):Int:=ns.foldl max 0
theorem Ay(ns:List Int)(x:Int):Kr (ns++[x])=max (Kr ns) x:=by unfold Kr;rw[List.foldl_append];rfl
theorem C5(a v:Value):argsOk "max" ⟨[a],[(Str.ofString "default",v)]⟩:=by unfold argsOk;kernel_rfl
section
variable {prog:Program} {E:Value->Shared->Prop} {R:Result->Shared->Prop} {I l S:Addr} {its:List Value} {ns:List Int} {t0:Tok}
theorem NO(hh:A.handled=none)(hlI:l≠I)(Zv:S≠I)(hSl:S≠l)(hi:∀(j:Nat) (x:Int),ns[j]? =some x->∃t,its[j]? =some (Value.int x t))(hlen:its.length=ns.length)(Oa:∀x∈ns,0<=x):
  ∀(k j:Nat) (s:Shared) (arr:Array Value) (c:Nat),ns.length - j=k->j<=ns.length->(s.heap.IsListIter I l j/\s.heap.IsList l its.toArray)->s.heap.get? S=some {cls:=.type "list",dict:=none,data:=.seq arr c,slots:= #[]}->
  (j=0->arr= #[])->(0<j->∃t u,arr= #[.int (Kr (ns.take j)) t,.int (Kr (ns.take j)) u])->
  (∀t h' tk,(∀b o,b≠I->b≠S->s.heap.get? b=some o->h'.get? b=some o)->R (.ok (.ret (.int (Kr ns) t))) {s with heap:=h',toks:=tk})->
  codeAny (model prog w) A (.builtin "max.loop" ⟨[.ref I,.none,.ref S],[(Str.ofString "default",.int 0 t0)]⟩) R s:=by
 have Wk:=Walks.list (prog:=prog) (w:=w) (A:=A.in1) hh I l hlI its.toArray;have hsz:its.toArray.size=ns.length:=by rw[bL,hlen]
 have ID:(toString "max"++toString ".loop":String)="max.loop":=by decide
 intro k
 induction k with
 |zero=>
  intro j s arr c hk hj sI hS h0 h1 hR;have Zm:j=ns.length:=by omega
  refine codeAny_builtin PySem.F.entry_max_loop ?_;rw[Around.under_plainId PySem.F.plain_max_loop _];show wpAny _ A.in1 (seqItems? (.ref S) >>= _) _ _ s;refine wpAny_bind (wpAny_seqItems hS rfl ?_);show wpAny _ A.in1 (tryCatch (pyNext (.ref I)) _ >>= _) _ _ s;refine wpAny_bind (wpAny_tryCatch (Wk.done s _ _ (by rw[hsz,<-Zm];exact sI) λh' tk AV=>?_));have Mr:=AV S _ (by simpa using Zv) hS;by_cases hz:j=0
  ·have ha:=h0 hz;subst ha;have en:ns=[]:=List.length_eq_zero_iff.mp (by omega);show wpAny _ A.in1 (rule _ >>= λ_=>ret (.int 0 t0)) _ _ _;refine wpAny_bind (wpAny_rule (wpAny_pure ?_));have:=hR t0 h' tk λb o hb SD e=>AV b o (by simpa using hb) e
   rw[en]at this;exact this
  ·obtain⟨t,u,ha⟩:=h1 (by omega);subst ha;rw[Zm,List.take_length]at Mr;rw[Zm,List.take_length];show wpAny _ A.in1 (updateSeq S (λ_=> #[]) >>= _) _ _ _;refine wpAny_bind ?_;refine wpAny_updateSeq Mr rfl (wpAny_bind (wpAny_letGo (wpAny_pure ?_)));exact hR t _ tk λb o hb SD e=>(Heap.get?_update_other _ _ (Ne.symm SD)).trans (AV b o (by simpa using hb) e)
 |succ k ih=>
  intro j s arr c hk hj sI hS h0 h1 hR;have eP:j<ns.length:=by omega
  obtain⟨t,hv⟩:=hi j _ (bx eP);have hx0:0<=ns[j]:=Oa _ (List.getElem_mem eP);have T7:ns.take (j+1)=ns.take j++[ns[j]]:=by rw[List.take_add_one,bx eP];rfl
  refine codeAny_builtin PySem.F.entry_max_loop ?_;rw[Around.under_plainId PySem.F.plain_max_loop _];show wpAny _ A.in1 (seqItems? (.ref S) >>= _) _ _ s;refine wpAny_bind (wpAny_seqItems hS rfl ?_);show wpAny _ A.in1 (tryCatch (pyNext (.ref I)) _ >>= _) _ _ s;refine wpAny_bind (wpAny_tryCatch (Wk.item j s _ _ (by rw[hsz];exact eP) sI λv h' tk hP Y5 AV=>?_));have hv':v= .int ns[j] t:=by
   have:its[j]? =some v:=by simpa using hP
   rw[hv]at this;exact(aO this).symm
  subst hv';have Mr:=AV S _ (by simpa using Zv) hS;have keep:∀(f:Array Value->Array Value) b o,b≠S->h'.get? b=some o->(h'.update S (Obj.mapSeq f)).get? b=some o:=λf b o hb e=>(Heap.get?_update_other _ _ (Ne.symm hb)).trans e
  have P9:∀f:Array Value->Array Value,(h'.update S (Obj.mapSeq f)).IsListIter I l (j+1)/\(h'.update S (Obj.mapSeq f)).IsList l its.toArray:=λf=>
   Wk.frame _ _ _ Y5 λb hb o e=>keep f b o (λq=>by
    rcases List.mem_cons.mp hb with r|hb
    ·exact Zv (q.symm.trans r)
    ·exact hSl (q.symm.trans (List.mem_singleton.mp hb))) e
  by_cases hz:j=0
  ·have ha:=h0 hz;subst ha;show wpAny _ A.in1 (updateSeq S (λ_=> #[.int ns[j] t,.int ns[j] t]) >>= _) _ _ _;refine wpAny_bind ?_;refine wpAny_updateSeq Mr rfl ?_;rw[ID];refine wpAny_pure ⟨plainId_quiet PySem.F.plain_max_loop _,ih (j+1) _ _ _ (by omega) eP (P9 _) (Heap.get?_update_self _ Mr rfl) (λq=>by omega) (λ_=>⟨t,t,?_⟩) λt' h2 Vm kk=>?_⟩
   ·have e:Kr (ns.take (j+1))=ns[j]:=by
     rw[T7,Ay];simp only [hz,List.take_zero];show max (0:Int) _=_;have:(0:Int)<=ns[0]:=by
      have:=hx0;simp only [hz]at this;exact this
     omega
    rw[e]
   ·exact hR t' h2 Vm λb o hb SD e=>kk b o hb SD (keep _ b o SD (AV b o (by simpa using hb) e))
  ·obtain⟨tb,ub,ha⟩:=h1 (by omega);subst ha;show wpAny _ A.in1 (tryCatch (holding [.int ns[j] t,.int ns[j] t] (richCompare .Gt (.int ns[j] t) (.int (Kr (ns.take j)) ub) >>= _)) _ >>= _) _ _ _;refine wpAny_bind (wpAny_tryCatch (wpAny_holding (wpAny_bind (richCompare_gives (op:=.Gt) (typeIs_int _ _ t) (typeIs_int _ _ ub) PySem.F.slot_int_gt PySem.F.entry_int_gt (PySem.F.args_int_gt_2 _ _) (gives_int_gt _ _ t ub) (λx=>nomatch x) ?_))));refine wpAny_bind (wpAny_holding (wpAny_truthy_bool ?_));refine wpAny_bind (wpAny_letGo (wpAny_pure ?_));by_cases hb:ns[j]>Kr (ns.take j)
   ·simp only [hb,decide_true,if_true];refine wpAny_bind ?_;refine wpAny_updateSeq Mr rfl (wpAny_bind (wpAny_letGo ?_));rw[ID];refine wpAny_pure ⟨plainId_quiet PySem.F.plain_max_loop _,ih (j+1) _ _ _ (by omega) eP (P9 _) (Heap.get?_update_self _ Mr rfl) (λq=>by omega) (λ_=>⟨t,t,?_⟩) λt' h2 Vm kk=>?_⟩
    ·have e:Kr (ns.take (j+1))=ns[j]:=by rw[T7,Ay];omega
     rw[e]
    ·exact hR t' h2 Vm λb o hb SD e=>kk b o hb SD (keep _ b o SD (AV b o (by simpa using hb) e))
   ·simp only [hb,decide_false,Bool.false_eq_true,if_false];refine wpAny_bind (wpAny_letGo ?_);rw[ID];refine wpAny_pure ⟨plainId_quiet PySem.F.plain_max_loop _,ih (j+1) _ _ _ (by omega) eP Y5 Mr (λq=>by omega) (λ_=>⟨tb,ub,?_⟩) λt' h2 Vm kk=>?_⟩
    ·have e:Kr (ns.take (j+1))=Kr (ns.take j):=by rw[T7,Ay];omega
     rw[e]
    ·exact hR t' h2 Vm λb o hb SD e=>kk b o hb SD (AV b o (by simpa using hb) e)
theorem CV{Q:Value->Shared->Prop}(hh:A.handled=none)(hl:s.heap.IsList l its.toArray)(hi:∀(j:Nat) (x:Int),ns[j]? =some x->∃t,its[j]? =some (Value.int x t))(hlen:its.length=ns.length)(Oa:∀x∈ns,0<=x)
  (hQ:∀t h' tk,(∀b o,s.heap.get? b=some o->h'.get? b=some o)->Q (.int (Kr ns) t) {s with heap:=h',toks:=tk}):
  wpAny (model prog w) A (call (.builtin "max") [.ref l] [(Str.ofString "default",.int 0 t0)]) Q E s:=by
 have ID:(toString "max"++toString ".loop":String)="max.loop":=by decide
 obtain⟨ol,hol,_⟩:=id hl;have Ua:l<s.heap.objs.size:=Heap.lt_size hol;refine kmk_tree PySem.F.kind_max PySem.F.plain_max PySem.F.entry_max (C5 _ _) ?_;show wpAny _ A.in1 (Builtin.Builtins.bindParams "max" ["key","default"] 0 ⟨[],[(Str.ofString "default",.int 0 t0)]⟩ >>= _) _ _ s;refine wpAny_bind (wpAny_of_eq (show Builtin.Builtins.bindParams "max" ["key","default"] 0 ⟨[],[(Str.ofString "default",.int 0 t0)]⟩=pure [none,some (.int 0 t0)]from rfl) ?_);refine wpAny_bind (wpAny_pure ?_);refine wpAny_bind (wpAny_pyIter_list hl ?_);refine wpAny_bind (wpAny_newList ?_ (bw _));rw[ID];have sz:(s.heap.push {cls:=.type "list_iterator",data:=.fields #[.ref l,.int 0 0]}).objs.size=s.heap.objs.size+1:=Heap.size_push ..;refine wpAny_pure ⟨plainId_quiet PySem.F.plain_max_loop _,NO hh (Nat.ne_of_lt Ua) (by rw[sz];exact Nat.ne_of_gt (Nat.lt_succ_self _)) (by rw[sz];exact Nat.ne_of_gt (Nat.lt_succ_of_lt Ua)) hi hlen Oa _ 0 _ #[] 0 rfl (bw _)
  ⟨⟨_,Heap.get?_push_of_some _ (Heap.get?_push_size _ rfl),rfl,rfl⟩,(hl.push _).push _⟩ (Heap.get?_push_size _ rfl) (λ_=>rfl) (λq=>absurd q (Nat.lt_irrefl _)) λt h' tk kk=>?_⟩
 refine hQ t h' tk λb o e=>kk b o (Nat.ne_of_lt (Heap.lt_size e)) (by rw[sz];exact Nat.ne_of_lt (Nat.lt_succ_of_lt (Heap.lt_size e))) (Heap.get?_push_of_some _ (Heap.get?_push_of_some _ e))
end
theorem SU{ns:List Int}:∀{its:List Value},Vals (ns.map V.int) its->∀(j:Nat) (x:Int),ns[j]? =some x->∃t,its[j]? =some (Value.int x t):=by
 induction ns with
 |nil=>intro its _ j x h;simp at h
 |cons a ns ih=>
  intro its r j x h;cases r with
  |cons r1 r2=>
   cases j with
   |zero=>
    obtain⟨t,rfl⟩:=r1;exact⟨t,by simpa using h⟩
   |succ j=>simpa using ih r2 j x (by simpa using h)
section
variable {X:Cx}
def XR(K:Frag)(ta:TA):TE:=λσ H Q=>ta σ H λvs H1=>∃(a:Addr) (ns:List Int),vs=[.ref a]/\bp K H1 a (ns.map V.int)/\(∀x∈ns,0<=x)/\Q (.int (Kr ns)) H1
theorem Tp{e:Expr}{p:Pos}{ci}(hc:X.calm=true)(hg:Gl X "max")(hm:X.mg "max"=none)(ha:PA X [e] ta)
  (he:backTo pos (starEach [e] X.env)=(false,eval e X.env)::backTo pos (starEach [] X.env):=by rfl):
  PE X (.Call (.Name "max" p) [e] [⟨some "default",.Constant (.int 0) ci cp,kp⟩] pos) (XR X.K ta):=by
 intro pins s σ H Q I h;refine wpAny_Call_Name_kw (nU I hg hm boot_max (PyProof.Rows.callWith_kw ?_ he (by rw[he];rfl) rfl rfl));refine c_ (ha pos pins s σ H _ I h) λus s1 ⟨vs,H1,I1,r1,q1⟩=>?_
 have pk:PK X [⟨some "default",.Constant (.int 0) ci cp,kp⟩] (d5 (tC (.int 0)) gj):=Tj ay VO;refine c_ (pk pos pins s1 σ H1 (λzs H2=>zs=[.int 0]/\H2=H1) I1 ⟨rfl,rfl⟩) λws s2 ⟨zs,H2,I2,rz,ez,eH⟩=>?_
 subst ez eH;cases rz with
 |cons rz1 rz2=>
  cases rz2;obtain⟨t0,rfl⟩:=rz1;obtain⟨a,ns,ev,hq,Oa,q⟩:=q1;subst ev;cases r1 with
  |cons r rr=>
   cases rr;cases r;obtain⟨its,rv,pl,hz⟩:=I2.list hq;have hl:=rv.length;rw[aH]at hl;exact CV (I2.ok.hd hc) pl.isList (SU rv) hl.symm Oa λt h' tk kk=>⟨.int _,_,I2.kept kk,⟨t,rfl⟩,q⟩
end
abbrev dS(l:List Nat):Str:=⟨l.toArray⟩
def lI(c:Nat):Nat:=if 65<=c/\c<=90 then c+32 else c
theorem TZ:∀c<128,Unicode.lowerOf c=[lI c]:=by decide +kernel
theorem Rf{l:List Nat}{c:Nat}(h:l[i]? =some c)(hc:c<128):Unicode.lowerAt l.toArray i=[lI c]:=by
 unfold Unicode.lowerAt;have e:l.toArray[i]? =some c:=by rw[List.getElem?_toArray];exact h
 rw[e];dsimp only;have h3:(c==0x3A3)=false:=beq_eq_false_iff_ne.mpr (by omega);rw[h3];exact TZ c hc
theorem NW{l:List Nat}(h:∀c∈l,c<128):Txt.lower (dS l)=dS (l.map lI):=by
 unfold Txt.lower placed;apply Str.ext';show((dS l).cps.mapIdx λi c=>(Unicode.lowerAt l.toArray i).toArray).flatten=(l.map lI).toArray;have e:((dS l).cps.mapIdx λi c=>(Unicode.lowerAt l.toArray i).toArray)=(l.map λc=> #[lI c]).toArray:=by
  apply Array.ext_getElem?;intro i;rw[Array.getElem?_mapIdx,List.getElem?_toArray,List.getElem?_toArray,bO];cases e:l[i]? with
  |none=>rfl
  |some c=>
   show some _=some _;rw[Rf e (h c (d7 e))]
 rw[e];apply Array.toList_inj.mp;rw[Array.toList_flatten];show((l.map λc=> #[lI c]).map Array.toList).flatten=l.map lI;rw[List.map_map];clear e h
 induction l with
 |nil=>rfl
 |cons c l ih=>
  show [lI c]++(l.map (Array.toList∘λc=> #[lI c])).flatten=lI c::l.map lI;rw[ih];rfl
def Xf:Str:="0123456789abcdef"
theorem RK:∀c<128,Txt.find Xf (dS [lI c])=match oK c with|some d=>(d:Int)|none=> -1:=by decide +kernel
theorem My{g:TG}{tb:TS}{D:Ends}{σ:L2.St}(Pv:Nat->L2.St->Hp->Prop)(h0:Pv 0 σ H)
  (hs:∀i c σ H,x.cps[i]? =some c->Pv i σ H->g (.str ⟨#[c]⟩) σ H λσ2 H2=>tb {D with nx:=Pv (i+1),ct:=Pv (i+1),bk:=D.nx} σ2 H2) (hd:∀σ H,Pv x.cps.size σ H->D.nx σ H):
  ∃W:Nat->Nat->L2.St->Hp->Prop,(∃m,W 0 m σ H)/\∀i m σ H,W i m σ H->
   ((Z2 x).stop i H/\D.nx σ H)\/((Z2 x).go i H/\∃N:L2.St->Hp->Prop,(∀σ' H',N σ' H'->∃m',m'<m/\W (i+1) m' σ' H')/\∀v H',(Z2 x).Pk i H v H'->g v σ H' λσ2 H2=>tb {D with nx:=N,ct:=N,bk:=D.nx} σ2 H2):=by
 refine⟨λi m σ H=>m=x.cps.size - i/\i<=x.cps.size/\Pv i σ H,⟨x.cps.size,by simp,bw _,h0⟩,?_⟩
 rintro i m σ H ⟨rfl,hi,p⟩
 by_cases he:i=x.cps.size
 ·subst he;exact .inl ⟨aM _,hd σ H p⟩
 ·refine .inr ⟨by show i<x.cps.size;omega,Pv (i+1),λσ' H' q=>⟨x.cps.size - (i+1),by omega,rfl,by omega,q⟩,?_⟩
  rintro v H' ⟨rfl,c,hc,rfl⟩
  exact hs i c σ H' hc p
section
def oI:Option Nat->Int
 |some n=>(n:Int)
 |none=> -1
inductive oZ(vs:List V)(H:Hp)(Q:VK)(_E:XK):Prop
 |mk (l:List Nat) (b:Nat):vs=[.str (dS l),vN b]->((∀c∈l,c<128))->l.length<=5000->1<=b->b<=16->Q (.int (oI (dm b l))) H->oZ vs H Q _E
theorem S_{l:List Nat}:decide (V.str (dS l)=V.str "")=decide (l=[]):=bN (by
 rw[aI,aI];constructor
 ·intro h;injection h with q
  have:=congrArg (λz:Str=>z.cps.toList) q;have e:(Str.ofString "").cps.toList=[]:=by decide +kernel
  rw[<-e,<-this]
 ·intro h;rw[h];rfl)
theorem qL(F:bU K "number_of_digits" "number_of_digits" gu f fd)(hH:GS mg "HEXADECIMAL_DIGITS" Xf)(hL:GI mg "VALUE_LIMIT" yT)(abS:mg "min"=none):aP P w K mg base aV 1 f fd ["digits","base"] oZ:=by
 refine F.ok jq (λvs H Q E h=>?_) (λbG A outer s H vs Q E hr h=>?_)
 ·obtain⟨l,b,rfl,_⟩:=h;rfl
 ·obtain⟨l,b,rfl,hl,hlen,SE,hb2,k⟩:=h;have nd:=jq.nd;refine⟨_,ae (a7 (aF dg (pv 0) fj (aK _)) (ag (aq (rl kZ ay))) aJ)
   (ae (aB (i:=2) nd rfl (Or.inl rfl) ay)
   (ae (gF PassesOwn.never rfl (Qz (QF (pv 0))) (bR (i:=3) nd rfl (Or.inl rfl))
    (ae (aB (i:=4) nd rfl (Or.inl rfl) (Mb PySem.F.slot_str_find PySem.F.type_str_find TR (HJ hH) (pv 3)))
    (ae (a7 (du (ij f_ oz ay (pv 4) (pv 1))) (ag (aq (rl kZ ay))) aJ)
    (ag (aB (i:=2) nd rfl (Or.inl rfl) (cb (OW rfl) (by rfl) abS PyProof.Rows.boot_min (aa (bb ck (bb Fi (pv 2) (pv 1)) (pv 4)) (aa (cI hL) aj))))))))
   (ag (aq (pv 2))))),?_⟩
  refine⟨_,rfl,rfl,_,rfl,?_⟩;rw[S_];refine eM (λhn=>?_) λhn=>?_
  ·have e:dm b l=none:=ai (cj hn);rw[e]at k;exact⟨_,rfl,k⟩
  have fR:¬l=[]:=eQ (Bool.eq_false_iff.mpr hn);have e0:dm b l=wK b 0 l:=ah fR;rw[e0]at k;refine⟨_,rfl,⟨_,rfl⟩,_,rfl,rfl,(by show l.toArray.size<=5592405;simp;omega),_,rfl,?_⟩;rw[NW hl];refine My (x:=dS (l.map lI)) (λi σ H'=>∃(n:Nat) (v3 v4:Option V),σ=[some (.str (dS l)),some (vN b),some (vN n),v3,v4]/\H'=H/\wK b 0 l=wK b n (l.drop i)) ⟨0,none,none,rfl,rfl,rfl⟩ ?_ ?_
  ·rintro i c σ H1 hc ⟨n,v3,v4,rfl,rfl,en⟩
   obtain⟨c0,U7,rfl⟩:∃c0,l[i]? =some c0/\c=lI c0:=by
    have xG:(l.map lI)[i]? =some c:=by rw[<-List.getElem?_toArray];exact hc
    rw[bO]at xG;cases e:l[i]? with
    |none=>rw[e]at xG;cases xG
    |some c0=>rw[e]at xG;exact⟨c0,rfl,(aO xG).symm⟩
   have hi:i<l.length:=(List.getElem?_eq_some_iff.mp U7).1;have ed:l.drop i=c0::l.drop (i+1):=by
    rw[eT hi];rw[bx hi]at U7;rw[aO U7]
   have e1:wK b n (c0::l.drop (i+1))=(match oK c0 with|some d=>if d<b then wK b (min (n*b+d) Sf84.W) (l.drop (i+1))else none|none=>none):=rfl;rw[ed,e1]at en;refine⟨⟨_,rfl⟩,_,rfl,_,_,rfl,rfl,?_⟩;have ef:=RK c0 (hl c0 (d7 U7));rw[show(⟨#[lI c0]⟩:Str)=dS [lI c0]from rfl,ef];cases hx:oK c0 with
   |none=>
    rw[hx]at en;refine⟨_,rfl,_,_,rfl,rfl,_,rfl,cx (by decide) ⟨_,rfl,cu rfl ?_⟩⟩;rw[en]at k;exact⟨_,rfl,k⟩
   |some d=>
    rw[hx]at en;dsimp only at en;refine⟨_,rfl,_,_,rfl,rfl,_,rfl,cu (by show decide ((0:Int)<=(d:Int))=true;exact aN (by omega)) ⟨_,rfl,_,_,rfl,rfl,_,rfl,?_⟩⟩;by_cases yn:d<b
    ·rw[ai yn]at en;refine cx (by show ¬(!decide ((d:Int)<(b:Int)))=true;rw[aN (by omega)];exact az) ?_;refine⟨_,rfl,_,rfl,_,_,rfl,rfl,.inr ⟨by omega,by omega⟩,_,rfl,_,_,rfl,rfl,_,_,rfl,?_⟩;have hW:Sf84.W=18446744073709551616:=rfl;have em:(if yT<(n:Int)*(b:Int)+(d:Int)then yT else(n:Int)*(b:Int)+(d:Int))=((min (n*b+d) Sf84.W:Nat):Int):=by
      have:((n*b+d:Nat):Int)=(n:Int)*(b:Int)+(d:Int):=by rw[tD,Int.natCast_mul]
      rw[<-this];have hLM:yT=(18446744073709551616:Int):=rfl;rw[hLM];generalize n*b+d=m;split<;>omega
     refine⟨min (n*b+d) Sf84.W,some (.str ⟨#[lI c0]⟩),some (vN d),?_,rfl,en⟩;show [some (V.str (dS l)),some (vN b),some (V.int (if yT<(n:Int)*(b:Int)+(d:Int)then yT else(n:Int)*(b:Int)+(d:Int))),some (.str ⟨#[lI c0]⟩),some (vN d)]=_;rw[em]
    ·rw[ah yn]at en;refine cu (by show(!decide ((d:Int)<(b:Int)))=true;rw[aQ (by omega)];rfl) ?_;rw[en]at k;exact⟨_,rfl,k⟩
  ·rintro σ H1 ⟨n,v3,v4,rfl,rfl,en⟩
   have e2:l.drop (dS (l.map lI)).cps.size=[]:=by
    apply List.drop_eq_nil_of_le;show l.length<=(l.map lI).toArray.size;simp
   rw[e2]at en;have en':wK b 0 l=some n:=en;rw[en']at k;exact⟨_,rfl,k⟩
end
theorem vz:∀(l acc:List Nat),TL.xU [46] 0 acc l=parts acc l
 |[],acc=>rfl
 |c::l,acc=>by
  unfold parts;by_cases h:c=46
  ·rw[ai h,TL.LQ (by rw[h];rfl)];show acc::TL.xU [46] 0 [] l=_;rw[vz l]
  ·have hp:TL.pre [46] (c::l)=false:=by
    show([c]==[46])=false;rw[beq_eq_false_iff_ne];intro q;exact h (List.cons.inj q).1
   rw[ah h,TL.Hk hp,vz l]
theorem PV:TL.tl ((".":Str))=[46]:=by decide +kernel
theorem M9(l:List Nat):Txt.split (dS l) "."=(parts [] l).map dS:=by
 have h:=TL.M8 (dS l) "." (by rw[PV];simp) (TL.T1 (by decide +kernel));rw[PV,show TL.tl (dS l)=l from rfl,vz]at h;have:(Txt.split (dS l) ".").map (λx=>dS (TL.tl x))=(parts [] l).map dS:=by rw[<-h,List.map_map];rfl
 rw[<-this];have e:(λx=>dS (TL.tl x))=(id:Str->Str):=by funext x;exact TL.YM x
 rw[e,List.map_id]
theorem vS:∀(l acc:List Nat),∀p∈parts acc l,∀c∈p,c∈acc\/c∈l
 |[],acc,p,hp,c,hc=>by
  rw[List.mem_singleton.mp hp]at hc;exact .inl hc
 |x::l,acc,p,hp,c,hc=>by
  unfold parts at hp;split at hp
  ·rcases List.mem_cons.mp hp with q|q
   ·rw[q]at hc;exact .inl hc
   ·rcases vS l [] p q c hc with z|z
    ·cases z
    ·exact .inr (aS _ z)
  ·rcases vS l (acc++[x]) p hp c hc with z|z
   ·rcases List.mem_append.mp z with z|z
    ·exact .inl z
    ·rw[List.mem_singleton.mp z];exact .inr bB
   ·exact .inr (aS _ z)
theorem vT:∀(l acc:List Nat),∀p∈parts acc l,p.length<=acc.length+l.length
 |[],acc,p,hp=>by rw[List.mem_singleton.mp hp];simp
 |x::l,acc,p,hp=>by
  unfold parts at hp;split at hp
  ·rcases List.mem_cons.mp hp with q|q
   ·rw[q];simp
   ·have:=vT l [] p q;simp at this ⊢;omega
  ·have:=vT l (acc++[x]) p hp;simp at this ⊢;omega
section
inductive tR(vs:List V)(H:Hp)(Q:VK)(_E:XK):Prop
 |mk (l:List Nat):vs=[.str (dS l)]->((∀c∈l,c<128))->l.length<=5000->(∀H':Hp,a9 H H'->Q (.int (oI (pointed l))) H')->tR vs H Q _E
theorem oE(F:bU K "number_with_points" "number_with_points" e7 f fd)(hP:GS mg "POINT" ".")(hlen:mg "len"=none)(mD:mg "number_of_digits"=some (.ref fD))(cD:Calls aV P w K mg fD 1 oZ):
  aP P w K mg base aV 2 f fd ["word"] tR:=by
 refine F.ok iB (λvs H Q E h=>?_) (λbG A outer s H vs Q E hr h=>?_)
 ·obtain⟨l,rfl,_⟩:=h;rfl
 ·obtain⟨l,rfl,hl,D8,k⟩:=h;have nd:=iB.nd;refine⟨_,ae (aB (i:=1) nd rfl (Or.inl rfl) (QB (pv 0) (HJ hP)))
   (ae (a7 (aF j0 (cb dv (by rfl) hlen PySem.boot_len (aa (pv 1) aj)) ay (aK _)) (ag (aq (rl kZ ay))) aJ)
   (ae (aB (i:=2) nd rfl (Or.inl rfl) ay)
   (ae (gF PassesOwn.never rfl (dG (pv 1)) (bR (i:=3) nd rfl (Or.inl rfl))
    (ae (aB (i:=4) nd rfl (Or.inl rfl) (aR cD mD hr aE (aa (pv 3) (aa ay aj))))
    (ae (a7 (du (ij f_ f_ ay (pv 4) ay)) (ag (aq (rl kZ ay))) aJ)
    (ag (aB (i:=2) nd rfl (Or.inl rfl) (bb ck (bb Fi (pv 2) ay) (pv 4)))))))
   (ag (aq (pv 2)))))),?_⟩
  refine⟨_,rfl,⟨_,rfl⟩,_,_,rfl,rfl,(by decide +kernel),(by show l.toArray.size+2<=sizeLine;simp;exact a8 (Nat.add_le_add_right D8 2) (by decide)),λp hp=>?_⟩;rw[M9];have sm:=aA (o:=.lst (((parts [] l).map dS).map V.str)) hp;refine⟨_,rfl,p,_,rfl,.inl (bp.of af),rfl,_,rfl,?_⟩;have el:(((parts [] l).map dS).map V.str).length=(parts [] l).length:=by rw[aH,aH]
  rw[el];refine eM (λh4=>?_) λh4=>?_
  ·have h4':¬(parts [] l).length=4:=by
    intro q;rw[q]at h4;cases h4
   have e:pointed l=none:=ah h4';rw[e]at k;exact⟨_,rfl,k _ sm⟩
  have h4':(parts [] l).length=4:=by
   by_cases q:(parts [] l).length=4
   ·exact q
   ·exfalso;apply h4;have:=Gd (parts [] l).length 4;show(!decide (V.int ((parts [] l).length:Int)=V.int ((4:Nat):Int)))=true;rw[this];show((parts [] l).length != 4)=true;simp[q]
  have e0:pointed l=pD 0 (parts [] l):=ai h4';rw[e0]at k;refine⟨_,rfl,p,rfl,⟨_,bp.of af⟩,je (K:=K) (a:=p) (xs:=((parts [] l).map dS).map V.str) (λi σ H'=>∃(n:Nat) (v3 v4:Option V),σ=[some (.str (dS l)),some (.ref p),some (vN n),v3,v4]/\H'=upd H p (.lst (((parts [] l).map dS).map V.str))/\pD 0 (parts [] l)=pD n ((parts [] l).drop i))
   ⟨0,none,none,rfl,rfl,rfl⟩ (λi σ H' _ ⟨_,_,_,_,e,_⟩=>by rw[e];exact bp.of af) ?_ ?_⟩
  ·rintro i y σ H1 hi ⟨n,v3,v4,rfl,rfl,en⟩
   obtain⟨q,hq,rfl⟩:∃q,(parts [] l)[i]? =some q/\y=V.str (dS q):=by
    rw[bO,bO]at hi;cases e:(parts [] l)[i]? with
    |none=>rw[e]at hi;cases hi
    |some q=>rw[e]at hi;exact⟨q,rfl,(aO hi).symm⟩
   have Xs:i<(parts [] l).length:=(List.getElem?_eq_some_iff.mp hq).1;have ed:(parts [] l).drop i=q::(parts [] l).drop (i+1):=by
    rw[eT Xs];rw[bx Xs]at hq;rw[aO hq]
   have eq1:pD n (q::(parts [] l).drop (i+1))=(match dm 10 q with|some d=>if d<=255 then pD (n*256+d) ((parts [] l).drop (i+1))else none|none=>none):=rfl;rw[ed,eq1]at en;have hqm:q∈parts [] l:=d7 hq;have hq1:∀c∈q,c<128:=λc hc=>by
    rcases vS l [] q hqm c hc with z|z
    ·cases z
    ·exact hl c z
   have hq2:q.length<=5000:=by
    have:=vT l [] q hqm;simp at this;omega
   refine⟨_,rfl,q,10,rfl,hq1,hq2,by decide,by decide,?_⟩;cases hd:dm 10 q with
   |none=>
    rw[hd]at en;refine⟨_,rfl,_,_,rfl,rfl,_,rfl,cx (by decide) ⟨_,rfl,cu rfl ?_⟩⟩;rw[en]at k;exact⟨_,rfl,k _ sm⟩
   |some d=>
    rw[hd]at en;dsimp only at en;refine⟨_,rfl,_,_,rfl,rfl,_,rfl,cu (by show decide ((0:Int)<=(d:Int))=true;exact aN (by omega)) ⟨_,_,rfl,rfl,_,rfl,?_⟩⟩;by_cases yn:d<=255
    ·rw[ai yn]at en;refine cx (by show ¬(!decide ((d:Int)<=255))=true;rw[aN (by omega)];exact az) ?_;refine⟨_,rfl,_,_,rfl,rfl,.inr ⟨by decide,by decide⟩,_,rfl,_,_,rfl,rfl,?_⟩;refine⟨n*256+d,some (.str (dS q)),some (vN d),?_,rfl,en⟩;have ee:(n:Int)*256+(d:Int)=((n*256+d:Nat):Int):=by omega
     show [some (V.str (dS l)),some (V.ref p),some (V.int ((n:Int)*256+(d:Int))),some (V.str (dS q)),some (vN d)]=_;rw[ee]
    ·rw[ah yn]at en;refine cu (by show(!decide ((d:Int)<=255))=true;rw[aQ (by omega)];rfl) ?_;rw[en]at k;exact⟨_,rfl,k _ sm⟩
  ·rintro σ H1 ⟨n,v3,v4,rfl,rfl,en⟩
   rw[el,List.drop_length]at en;have en':pD 0 (parts [] l)=some n:=en;rw[en']at k;exact⟨_,rfl,k _ sm⟩
end
theorem Vw:("0x":Str)=dS [48,120]:=by decide +kernel
theorem LP:(".":Str)=⟨#[46]⟩:=by decide +kernel
theorem M7(l:List Nat):Txt.startswith (dS l) "0x"=decide (l.take 2=[48,120]):=by
 unfold Txt.startswith;rw[StrLaws.subAt_eq,Vw];show(decide (0+2<=l.toArray.size)&&((l.drop 0).take 2==[48,120]))=_;rw[List.drop_zero];by_cases h:l.take 2=[48,120]
 ·have hl:2<=l.length:=by
   have:=congrArg List.length h;rw[bE]at this;simp at this;omega
  rw[aN h,h,aN (by simp;omega)];rfl
 ·rw[aQ h,beq_eq_false_iff_ne.mpr h,Bool.and_false]
theorem OO(l:List Nat)(k:Nat):CU (dS l) (some (k:Int)) none=dS (l.drop k):=by
 unfold CU;rw[HT.ia,HT.pB];show dS ((l.drop (min k l.toArray.size)).take (l.toArray.size - min k l.toArray.size))=_;have e:l.toArray.size=l.length:=by simp
 rw[e];by_cases h:k<=l.length
 ·rw[Nat.min_eq_left h,eD (by rw[a_];omega)]
 ·rw[Nat.min_eq_right (by omega),List.drop_length,List.drop_eq_nil_of_le (by omega:l.length<=k),List.take_nil]
theorem Je(l:List Nat)(a b:Nat)(h:a<=l.length):CU (dS l) (some (a:Int)) (some (b:Int))=dS ((l.drop a).take (b - a)):=by
 unfold CU;rw[HT.ia,HT.ia];show dS ((l.drop (min a l.toArray.size)).take (min b l.toArray.size - min a l.toArray.size))=_;have e:l.toArray.size=l.length:=by simp
 rw[e,Nat.min_eq_left h];by_cases hb:b<=l.length
 ·rw[Nat.min_eq_left hb]
 ·rw[Nat.min_eq_right (by omega),eD (by rw[a_];omega),eD (by rw[a_];omega)]
def J1:Option Nat->Option Nat
 |some n=>if n<Sf84.W then some n else none
 |none=>none
theorem Ni(h:n<Sf84.W):J1 (some n)=some n:=ai h
theorem Qi(h:¬n<Sf84.W):J1 (some n)=none:=ah h
theorem Wc(h:n<Sf84.W):(n:Int)<yT:=by
 have:Sf84.W=18446744073709551616:=rfl;show(n:Int)<18446744073709551616;omega
theorem Wd(h:¬n<Sf84.W):¬(n:Int)<yT:=by
 have:Sf84.W=18446744073709551616:=rfl;show ¬(n:Int)<18446744073709551616;omega
theorem S9{r:Option Nat}(k:Q (.int (oI (J1 r))) H):if decide (oI r<yT)=true then Q (.int (oI r)) H else Q (.int (-1)) H:=by
 cases r with
 |none=>
  have z:decide (oI none<yT)=true:=aN (show(-1:Int)<18446744073709551616 by omega);exact cu z k
 |some n=>
  cases hb:decide (n<Sf84.W)with
  |true=>
   have hn:=cj hb;rw[Ni hn]at k;have z:oI (some n)<yT:=Wc hn;rw[aN z,ai rfl];exact k
  |false=>
   have hn:=eQ hb;rw[Qi hn]at k;have z:¬oI (some n)<yT:=Wd hn;rw[aQ z,ah az];exact k
theorem Q7{l:List Nat}(h:l.take 2=[48,120]):ny l=J1 (dm 16 (l.drop 2)):=by
 unfold ny;rw[ai h];dsimp only;cases dm 16 (l.drop 2)<;>rfl
theorem Q8{l:List Nat}(h:¬l.take 2=[48,120])(hp:46∈l):ny l=J1 (pointed l):=by
 unfold ny;rw[ah h,ai hp];dsimp only;cases pointed l<;>rfl
theorem Q9{l:List Nat}(h:¬l.take 2=[48,120])(hp:¬46∈l):ny l=J1 (dm 10 l):=by
 unfold ny;rw[ah h,ah hp];dsimp only;cases dm 10 l<;>rfl
section
inductive EG(vs:List V)(H:Hp)(Q:VK)(_E:XK):Prop
 |mk (l:List Nat):vs=[.str (dS l)]->((∀c∈l,c<128))->l.length<=5000->(∀H':Hp,a9 H H'->Q (.int (oI (ny l))) H')->EG vs H Q _E
theorem uz(F:bU K "number_of_word" "number_of_word" iF f fd)(hP:GS mg "POINT" ".")(hL:GI mg "VALUE_LIMIT" yT)(mD:mg "number_of_digits"=some (.ref fD))(cD:Calls aV P w K mg fD 1 oZ)
  (mP:mg "number_with_points"=some (.ref fP)) (cP:Calls aV P w K mg fP 2 tR):aP P w K mg base aV 3 f fd ["word"] EG:=by
 refine F.ok kE (λvs H Q E h=>?_) (λbG A outer s H vs Q E hr h=>?_)
 ·obtain⟨l,rfl,_⟩:=h;rfl
 ·obtain⟨l,rfl,hl,hlen,k⟩:=h;have nd:=kE.nd;have jL:=hr.mono (show 1<=2 by decide);refine⟨_,ae (a7 (dc (Mb PySem.F.slot_str_startswith PySem.F.type_str_startswith Cn (pv 0) fj))
    (ag (aB (i:=1) nd rfl (Or.inl rfl) (aR cD mD jL aE (aa (de EZ (pv 0) (bQ ay) ur) (aa ay aj)))))
    (ag (a7 (aF sf (HJ hP) (pv 0) rfl) (ag (aB (i:=1) nd rfl (Or.inl rfl) (aR cP mP hr aE (aa (pv 0) aj))))
     (ag (aB (i:=1) nd rfl (Or.inl rfl) (aR cD mD jL aE (aa (pv 0) (aa ay aj))))))))
   (ag (aq (dA (aF oz (pv 1) (cI hL) (aK _)) (pv 1) (rl kZ ay)))),?_⟩
  have fin:∀(r:Option Nat) (H1:Hp),a9 H H1->ny l=J1 r->
    vy (tIf (Dx (Hf (zS λi j=>.bl (decide (i<j))) (dJ 1) (tC (.int yT)))) (dJ 1) (tUn (rU λi=>.int (-i)) (tC (.int 1)))) {nx:=λ_ H'=>Q .dt H',rt:=Q} [some (.str (dS l)),some (.int (oI r))] H1:=by
   intro r H1 sm e;have kk:=k H1 sm;rw[e]at kk;refine⟨_,rfl,_,_,rfl,rfl,_,rfl,?_⟩;have z:=S9 kk;by_cases hc:decide (oI r<yT)=true
   ·rw[ai hc]at z;exact cu hc ⟨_,rfl,z⟩
   ·rw[ah hc]at z;exact cx hc ⟨_,rfl,z⟩
  refine⟨_,rfl,⟨_,rfl⟩,_,_,rfl,rfl,_,rfl,?_⟩;rw[M7];by_cases h0:l.take 2=[48,120]
  ·refine cu (aN h0) ?_;refine⟨_,rfl,_,rfl,_,rfl,(by show l.toArray.size<=sizeLine;simp;exact a8 hlen (by decide)),?_⟩;rw[show((2:Int))=((2:Nat):Int)from rfl,OO];refine⟨l.drop 2,16,rfl,λc hc=>hl c (List.mem_of_mem_drop hc),by rw[a_];omega,by decide,by decide,?_⟩;refine fin (dm 16 (l.drop 2)) H (a9.refl H) (Q7 h0)
  ·refine cx (by rw[aQ h0];exact az) ?_;refine⟨_,rfl,46,dS l,by rw[LP],rfl,_,rfl,?_⟩;show if decide (46∈l)=true then _ else _
   by_cases hp:46∈l
   ·refine cu (aN hp) ?_;refine⟨_,rfl,l,rfl,hl,hlen,λH1 sm=>?_⟩;refine fin (pointed l) H1 sm (Q8 h0 hp)
   ·refine cx (by rw[aQ hp];exact az) ?_;refine⟨_,rfl,l,10,rfl,hl,hlen,by decide,by decide,?_⟩;refine fin (dm 10 l) H (a9.refl H) (Q9 h0 hp)
def LA:Str:="abcdefghijklmnopqrstuvwxyzABCDEFGHIJKLMNOPQRSTUVWXYZ0123456789"
theorem We:∀c<128,(decide (c∈LA.cps.toList)||decide (c=46))=dN c:=by decide +kernel
inductive tS(vs:List V)(H:Hp)(Q:VK)(_E:XK):Prop
 |mk (c:Nat):vs=[.str ⟨#[c]⟩]->c<128->Q (.bl (dN c)) H->tS vs H Q _E
theorem Cd(F:bU K "is_of_word" "is_of_word" mR f fd)(hA:GS mg "LETTERS_AND_DIGITS" LA)(hP:GS mg "POINT" "."):aP P w K mg base aV 1 f fd ["sign"] tS:=by
 refine F.ok BL (λvs H Q E h=>?_) (λbG A outer s H vs Q E hr h=>?_)
 ·obtain⟨c,rfl,_⟩:=h;rfl
 ·obtain⟨c,rfl,hc,k⟩:=h;refine⟨_,ag (aq (Yw (iU sf (pv 0) (HJ hA) rfl) (zY (iU dg (pv 0) (HJ hP) (aK _))))),?_⟩;refine⟨_,rfl,c,LA,rfl,rfl,_,rfl,?_⟩;have e:=We c hc;rw[<-e]at k;cases h1:decide (c∈LA.cps.toList)with
  |true=>
   rw[h1]at k;exact cu rfl k
  |false=>
   rw[h1]at k;refine cx az ?_;refine⟨_,rfl,rfl,?_⟩;have e2:decide (V.str ⟨#[c]⟩=V.str ".")=decide (c=46):=by
    rw[LP];apply bN;rw[aI,aI];constructor
    ·intro z;injection z with z
     injection z with z
     simpa using z
    ·intro z;rw[z]
   show Q (V.bl (decide (V.str ⟨#[c]⟩=V.str "."))) H;rw[e2];exact k
end
def dM(l:List Nat):V:=.str (dS l)
theorem Ta{a:List Nat}(h:dS a=dS b):a=b:=by
 have:=congrArg (λz:Str=>z.cps.toList) h;simpa using this
theorem wH(ls:List (List Nat)):(ls.map dM).all uW=true:=by
 rw[List.all_map,Eu];intro x _;rfl
theorem AU(q:List Nat)(ls:List (List Nat)):Sz (dM q) (ls.map dM)=decide (q∈ls):=by
 apply bN;unfold Sz;rw[List.any_map,List.any_eq_true,aI];constructor
 ·rintro⟨x,hx,e⟩
  have e':PB (dM x) (dM q)=true:=e;unfold dM PB at e';have:=cj e';rw[<-Ta this];exact hx
 ·intro h;refine⟨q,h,?_⟩;show PB (dM q) (dM q)=true;unfold dM PB;exact aN rfl
theorem tM{p:Nat->Bool}:∀{l:List Nat} {j:Nat},(∀i c,i<j->l[i]? =some c->p c=true)->(∀c,l[j]? =some c->p c=false)->j<=l.length->l.takeWhile p=l.take j
 |[],j,_,_,h=>by
  have:j=0:=by simpa using h
  subst this;rfl
 |c::l,0,_,h2,_=>by
  rw[List.takeWhile_cons,h2 c rfl];rfl
 |c::l,j+1,h1,h2,h3=>by
  rw[List.takeWhile_cons,h1 0 c (by omega) rfl];show c::l.takeWhile p=c::l.take j;rw[tM (λi x hi hx=>h1 (i+1) x (by omega) hx) (λx hx=>h2 x hx) (by simpa using h3)]
section
inductive yD(vs:List V)(H:Hp)(Q:VK)(_E:XK):Prop
 |mk (t:List Nat) (p:Nat):vs=[dM t,vN p]->p<t.length->((∀c∈t,c<128))->t.length<=5000->Q (dM (bJ (t.drop p))) H->yD vs H Q _E
theorem HX(F:bU K "piece_at" "piece_at" rT f fd)(hlen:mg "len"=none)(mW:mg "is_of_word"=some (.ref fW))(cW:Calls aV P w K mg fW 1 tS)(mL:mg "LONG_SIGNS"=some (.ref aL))(kL:KT K aL (dD.map dM)):
  aP P w K mg base aV 2 f fd ["text","place"] yD:=by
 refine F.ok xr (λvs H Q E h=>?_) (λbG A outer s H vs Q E hr h=>?_)
 ·obtain⟨t,p,rfl,_⟩:=h;rfl
 ·obtain⟨t,p,rfl,hp,ht,D8,k⟩:=h;have nd:=xr.nd;have hsz:(dS t).length<=sizeLine:=by show t.toArray.size<=sizeLine;simp;exact a8 D8 (by decide)
  have Y2:((dS t).length:Int)=(t.length:Int):=by show((t.toArray.size:Nat):Int)=_;simp
  refine⟨_,ae (aB (i:=2) nd rfl (Or.inl rfl) (pv 1))
   (ae (fi PassesOwn.never (PW.pt (Qs (aF oz (pv 2) (cb jF (by rfl) hlen PySem.boot_len (aa (pv 0) aj)) (aK _)) (L4 (dc (aR cW mW hr aE (aa (bu FU (pv 0) (pv 2) (λ_ _=>rfl)) aj))))))
    (ag (lG (i:=2) nd rfl (Or.inl rfl) ay lJ)))
   (ae (a7 (aF ux (pv 2) (pv 1) (aK _)) (ag (aq (de EZ (pv 0) (bQ (pv 1)) (bQ (pv 2))))) aJ)
   (ae (a7 (aF qF (de EZ (pv 0) (bQ (pv 1)) (bQ (bb ck (pv 1) ay))) (BV mL) rfl) (ag (aq (de EZ (pv 0) (bQ (pv 1)) (bQ (bb ck (pv 1) ay))))) aJ)
   (ag (aq (bu FU (pv 0) (pv 1) (λ_ _=>rfl))))))),?_⟩
  refine⟨_,rfl,?_⟩;refine eY (λσ H'=>∃j:Nat,σ=[some (dM t),some (vN p),some (vN (p+j))]/\H'=H/\j<=(t.drop p).length/\∀i c,i<j->(t.drop p)[i]? =some c->dN c=true)
   (λσ _=>t.length - intAt σ 2) ⟨0,rfl,rfl,bw _,λi c h=>by omega⟩ ?_ ?_
  ·rintro σ H1 ⟨j,rfl,rfl,hj,qV⟩
   rw[a_]at hj;have behind:(∀c,(t.drop p)[j]? =some c->dN c=false)->P0 (Vs (Dx (Hf (zS λi j=>.bl (decide (j<i))) (dJ 2) (dJ 1))) (vy (tSl Qq (dJ 0) (zf (dJ 1)) (zf (dJ 2)))) P1)
     (P0 (Vs (Dx (Hf (rIn K false) (tSl Qq (dJ 0) (zf (dJ 1)) (zf (Hf (zS λi j=>.int (i+j)) (dJ 1) (tC (.int 2))))) (tC (.ref aL)))) (vy (tSl Qq (dJ 0) (zf (dJ 1)) (zf (Hf (zS λi j=>.int (i+j)) (dJ 1) (tC (.int 2)))))) P1) (vy (Hf VJ (dJ 0) (dJ 1))))
     {nx:=λ_ H'=>Q .dt H',rt:=Q} [some (dM t),some (vN p),some (vN (p+j))] H1:=by
    intro Y4;have tw:(t.drop p).takeWhile dN=(t.drop p).take j:=tM qV Y4 (by rw[a_];exact hj);have twl:((t.drop p).takeWhile dN).length=j:=by rw[tw,bE,a_];omega
    refine⟨_,rfl,_,rfl,_,_,rfl,rfl,_,rfl,eM (λKN=>?_) λKN=>?_⟩
    ·have hj0:0<j:=by
      have:=cj KN;omega
     have e:bJ (t.drop p)=(t.drop p).take j:=by
      unfold bJ;rw[ai (by rw[twl];exact hj0),tw]
     refine⟨_,rfl,_,rfl,_,rfl,_,rfl,_,rfl,_,rfl,hsz,?_⟩;rw[e]at k;show Q (V.str (CU (dS t) (some (p:Int)) (some ((p+j:Nat):Int)))) H1;rw[Je t p (p+j) (by omega),show p+j - p=j by omega];exact k
    ·have hj0:j=0:=by
      by_cases z:0<j
      ·exfalso;apply KN;exact aN (by omega)
      ·omega
     subst hj0;have e:bJ (t.drop p)=if(t.drop p).take 2∈dD then(t.drop p).take 2 else(t.drop p).take 1:=by
      unfold bJ;rw[ah (by rw[twl];omega)]
     have e2:CU (dS t) (some (p:Int)) (some ((p:Int)+2))=dS ((t.drop p).take 2):=by
      rw[show(p:Int)+2=((p+2:Nat):Int) by omega,Je t p (p+2) (by omega),show p+2 - p=2 by omega]
     refine⟨_,rfl,_,rfl,_,rfl,_,rfl,_,_,rfl,rfl,_,rfl,_,rfl,hsz,?_⟩;rw[e2];refine⟨aL,_,rfl,.inr kL.sq,rfl,wH dD,_,rfl,?_⟩;show if Sz (dM ((t.drop p).take 2)) (dD.map dM)=true then _ else _
     rw[AU];refine eM (λh2=>?_) λh2=>?_
     ·have U8:=cj h2;rw[e,ai U8]at k;refine⟨_,rfl,_,rfl,_,rfl,_,rfl,_,_,rfl,rfl,_,rfl,_,rfl,hsz,?_⟩;show Q (V.str (CU (dS t) (some (p:Int)) (some ((p:Int)+2)))) H1;rw[e2];exact k
     ·have U8:=eQ (Bool.eq_false_iff.mpr h2);rw[e,ah U8]at k;have hc:t[p]? =some t[p]:=bx hp;refine⟨_,rfl,_,rfl,_,p,t[p],rfl,rfl,hsz,bW hc,?_⟩;rw[eT hp]at k;exact k
   refine⟨_,rfl,_,rfl,_,rfl,hsz,_,_,rfl,rfl,_,rfl,?_⟩;rw[Y2];refine eM (λeP=>?_) λeP=>?_
   ·have Ct:p+j<t.length:=by
     have:=cj eP;omega
    have hc:t[p+j]? =some t[p+j]:=bx Ct;have yN:(t.drop p)[j]? =some t[p+j]:=by rw[List.getElem?_drop];exact hc
    refine⟨_,rfl,_,rfl,_,((p+j:Nat):Int),t[p+j],rfl,rfl,hsz,bW hc,t[p+j],rfl,ht _ (List.getElem_mem Ct),_,rfl,?_⟩;cases hw:dN t[p+j]with
    |true=>
     refine cu rfl ?_;refine⟨_,rfl,_,_,rfl,rfl,?_⟩;refine⟨⟨j+1,?_,rfl,by rw[a_];omega,λi c hi Xv=>?_⟩,?_⟩
     ·show [some (dM t),some (vN p),some (V.int (((p+j:Nat):Int)+1))]=_;rw[show(((p+j:Nat):Int)+1)=((p+(j+1):Nat):Int) by omega]
     ·by_cases hij:i=j
      ·subst hij;rw[yN]at Xv;cases Xv;exact hw
      ·exact qV i c (by omega) Xv
     ·show t.length - (((p+j:Nat):Int)+1).toNat<t.length - ((p+j:Nat):Int).toNat;omega
    |false=>
     refine cx az ?_;exact behind λc xG=>by rw[yN]at xG;cases xG;exact hw
   ·refine cx az ?_;refine behind λc xG=>?_
    exfalso;apply eP;have:=(List.getElem?_eq_some_iff.mp xG).1;rw[a_]at this;exact aN (by omega)
  ·intro σ H1 Q1 Q2 hq h;obtain⟨v1,e1,v2,e2,z,q1,q2,i1,j1,r1,r2,c,r3,rest⟩:=h;refine⟨v1,e1,v2,e2,z,q1,q2,i1,j1,r1,r2,c,r3,?_⟩;by_cases hc:c=true
   ·rw[ai hc]at rest ⊢;obtain⟨v3,e3,v4,e4,z4,i4,c4,q4,q5,q6,q7,sp⟩:=rest;obtain⟨c5,e5,h5,b5,e6,h6⟩:=sp;exact⟨v3,e3,v4,e4,z4,i4,c4,q4,q5,q6,q7,c5,e5,h5,b5,e6,hq _ _ h6⟩
   ·rw[ah hc]at rest ⊢;exact hq _ _ rest
end
def Vk:List Str:=["sign","place","number"]
theorem EB:Vk.Nodup:=by decide +kernel
def Vl(s p n:V):List (Str×V):=Vk.zip [s,p,n]
theorem Hb(s p n:V):(Vl s p n).lookup ("sign":Str)=some s:=bM (i:=0) EB rfl rfl
theorem PX(s p n:V):(Vl s p n).lookup ("place":Str)=some p:=bM (i:=1) EB rfl rfl
theorem UE(s p n:V):(Vl s p n).lookup ("number":Str)=some n:=bM (i:=2) EB rfl rfl
structure Bo(K:Frag)(mg:Str->Option Value)(C:Addr):Prop where
 cl:G0 K C
 nS:b_ K C "sign"
 nP:b_ K C "place"
 nN:b_ K C "number"
 nm:mg "Token"=some (.ref C)
def oO(C:Addr)(H:Hp)(a:Addr)(sg:List Nat)(p n:Nat):Prop:=∃dx,H a=some (.ins C dx (Vl (dM sg) (vN p) (vN n)))
theorem oO.same(h:oO C H a sg p n)(s:a9 H H'):oO C H' a sg p n:=by
 obtain⟨dx,e⟩:=h;exact⟨dx,s _ _ e⟩
section
inductive i5(C:Addr)(vs:List V)(H:Hp)(Q:VK)(_E:XK):Prop
 |mk (a dx:Addr) (s p n:V):vs=[.ref a,s,p,n]->H a=some (.ins C dx [])->(∀H':Hp,H' a=some (.ins C dx (Vl s p n))->(∀b u,H b=some u->b≠a->H' b=some u)->Q .dt H')->i5 C vs H Q _E
theorem Cj(F:bU K "__init__" "Token.__init__" m_ f fd)(T:Bo K mg C):aP P w K mg base aV 1 f fd ["self","sign","place","number"] (i5 C):=by
 refine F.ok BP (λvs H Q E h=>?_) (λbG A outer s H vs Q E hr h=>?_)
 ·obtain⟨a,dx,s,p,n,rfl,_⟩:=h;rfl
 ·obtain⟨a,dx,sg,p,n,rfl,hp,k⟩:=h;refine⟨_,ae (cv (pv 0) (pv 1) rfl) (ae (cv (pv 0) (pv 2) rfl) (ag (cv (pv 0) (pv 3) rfl))),?_⟩;refine⟨_,rfl,_,rfl,a,C,dx,[],rfl,hp,T.cl,T.nS,(by show 0<1000;decide),?_⟩;refine⟨_,rfl,_,rfl,a,C,dx,_,rfl,af,T.cl,T.nP,(by show 1<1000;decide),?_⟩;have e1:bP "place" p (bP "sign" sg [])=(["sign","place"]:List Str).zip [sg,p]:=ie (ns:=["sign"]) (vs:=[sg]) (by decide +kernel) rfl;rw[e1];refine⟨_,rfl,_,rfl,a,C,dx,_,rfl,af,T.cl,T.nN,(by show 2<1000;decide),?_⟩;have e2:bP "number" n ((["sign","place"]:List Str).zip [sg,p])=Vl sg p n:=ie (ns:=["sign","place"]) (vs:=[sg,p]) (by decide +kernel) rfl;refine k _ (by rw[af,e2]) λb u hb fR=>?_
  rw[ao fR,ao fR,ao fR];exact hb
theorem sy{x:Addr}(hx:H x=none)(hd:H dx=none)(k:∀(H':Hp) (a:Addr),a9 H H'->H a=none->oO C H' a sg p n->Q (.ref a) H'):
  i5 C [.ref x,dM sg,vN p,vN n] (upd (upd H dx (.own x)) x (.ins C dx [])) (λv H2=>v= .dt/\Q (.ref x) H2) E0:=by
 refine⟨x,dx,_,_,_,rfl,af,λH' h1 h2=>⟨rfl,?_⟩⟩;have sm:a9 H H':=λb u e=>h2 b u (by rw[ao (au e hx),ao (au e hd)];exact e) (au e hx)
 exact k H' x sm hx ⟨dx,h1⟩
def nZ:Str:="()[]{}:+-|*&=<>"
theorem Ht:nZ.cps.toList=dn:=by decide +kernel
theorem N7{q:List Nat}(h:q.length=1\/∃c r,q=c::r/\c ∉ dn):(!(Builtin.Str.occurrences nZ (dS q) 0 nZ.length 1).isEmpty)=decide (q.length=1/\∀c∈q,c∈dn):=by
 apply bN;rw[StrLaws.found_iff,aI];have hl:(dS q).length=q.length:=by show q.toArray.size=_;simp
 constructor
 ·rintro⟨i,h1,h2⟩
  rw[StrLaws.subAt_eq,beq_iff_eq,Ht,hl]at h2;have U8:(dn.drop i).take q.length=q:=by simpa using h2
  have sub:∀c∈q,c∈dn:=λc hc=>by
   rw[<-U8]at hc;exact List.mem_of_mem_drop (List.mem_of_mem_take hc)
  rcases h with h|⟨c,r,rfl,hc⟩
  ·exact⟨h,sub⟩
  ·exact absurd (sub c bB) hc
 ·rintro⟨h1,h2⟩
  match q,h1,h2 with
  |[c],_,h2=>
   have hc:=h2 c bB;obtain⟨i,hi⟩:=List.mem_iff_getElem?.mp hc;refine⟨i,(StrLaws.subAt_one nZ c i).mpr ?_⟩;rw[Ht];exact hi
def Qa(C:Addr):Sp:=λvs H Q E=>∃(q:List Nat) (p:Nat),vs=[dM q,vN p]/\(q∈dD\/q.length=1\/∃c r,q=c::r/\c ∉ dn)/\(∀c∈q,c<128)/\q.length<=5000/\
 (match pR q with
  |some (sg,n)=>∀(H':Hp) (a:Addr),a9 H H'->oO C H' a sg p n->Q (.ref a) H'
  |none=>∀(H':Hp) (a:Addr),a9 H H'->E (.int p 0) (some a) H')
theorem HU{CE:Addr}(F:bU K "token_of" "token_of" rR f fd)(T:Bo K mg C)(M:Makes P w K mg C 1 (i5 C))(R:Bq K mg CE N fI jD)(mL:mg "LONG_SIGNS"=some (.ref aL))(kL:KT K aL (dD.map dM))
  (hS:GS mg "SHORT_SIGNS" nZ) (mW:mg "WORDS"=some (.ref aW)) (kW:KT K aW (kX.map dM)) (mN:mg "number_of_word"=some (.ref fW)) (cN:Calls aV P w K mg fW 3 EG) (ab1:GS mg "NUMBER" (dS [110,117,109,98,101,114])):
  aP P w K mg base (gq P w CE) 4 f fd ["piece","place"] (Qa C):=by
 refine bU.JA F xp (λvs H Q E h=>?_) (λbG A outer s H vs Q E hr h=>?_)
 ·obtain⟨q,p,rfl,_⟩:=h;rfl
 ·obtain⟨q,p,rfl,hq,hq1,hq2,k⟩:=h;have nd:=xp.nd;refine⟨_,ae (a7 (PW.pt (jb (aF qF (pv 0) (BV mL) rfl) (jb (aF Nw (pv 0) (HJ hS) rfl) (lF (aF qF (pv 0) (BV mW) rfl)))))
    (ag (aq (kO M T.nm (hr.mono (by decide)) (aa (pv 0) (aa (pv 1) (aa ay aj)))))) aJ)
   (ae (aB (i:=2) nd rfl (Or.inl rfl) (aR cN mN hr aE (aa (pv 0) aj)))
   (ae (a7 (aF oz (pv 2) ay (aK _)) (ag (lY R df (hr.mono (by decide)) (pv 1))) aJ)
   (ag (aq (kO M T.nm (hr.mono (by decide)) (aa (HJ ab1) (aa (pv 1) (aa (pv 2) aj)))))))),?_⟩
  have wr:dU q=true->vy (zg C (i5 C) [] E0 (d5 (dJ 0) (d5 (dJ 1) (d5 (tC (.int 0)) gj)))) {nx:=λ_ H'=>Q .dt H',rt:=Q} [some (dM q),some (vN p),none] H:=by
   intro hw;have e:pR q=some (q,0):=ai hw;rw[e]at k;refine⟨_,rfl,_,rfl,?_⟩;intro x dx hx pS fR;exact sy (n:=0) hx pS λH' a sm _ tk=>k H' a sm tk
  refine⟨_,rfl,aL,_,rfl,.inr kL.sq,rfl,wH dD,_,rfl,?_⟩;show if Sz (dM q) (dD.map dM)=true then _ else _
  rw[AU];refine eM (λh1=>?_) λh1=>?_
  ·refine cu rfl (wr ?_);unfold dU;rw[h1];rfl
  have h1':=eQ (Bool.eq_false_iff.mpr h1);have N_:q.length=1\/∃c r,q=c::r/\c ∉ dn:=hq.resolve_left h1';refine⟨_,rfl,dS q,nZ,rfl,rfl,_,rfl,?_⟩;rw[N7 N_];refine eM (λh2=>?_) λh2=>?_
  ·refine cu rfl (wr ?_);unfold dU;rw[h2,Bool.true_or,Bool.or_true]
  have U8:=Bool.eq_false_iff.mpr h2;refine⟨_,rfl,aW,_,rfl,.inr kW.sq,rfl,wH kX,_,rfl,?_⟩;show if Sz (dM q) (kX.map dM)=true then _ else _
  rw[AU];refine eM (λh3=>?_) λh3=>?_
  ·refine wr ?_;unfold dU;rw[h3,Bool.or_true,Bool.or_true]
  have h3':=Bool.eq_false_iff.mpr h3;have nw:dU q=false:=by
   unfold dU;rw[aQ h1',U8,h3'];rfl
  have e:pR q=(ny q).map λn=>([110,117,109,98,101,114],n):=ah (by rw[nw];exact az)
  rw[e]at k;refine⟨_,rfl,q,rfl,hq1,hq2,λH1 sm=>?_⟩;refine⟨_,rfl,_,_,rfl,rfl,_,rfl,?_⟩;cases hn:ny q with
  |none=>
   rw[hn]at k;refine cu (by decide) ?_;exact⟨_,rfl,p,rfl,λa=>k H1 a sm⟩
  |some n=>
   rw[hn]at k;refine cx (by show ¬decide ((n:Int)<0)=true;rw[aQ (by omega)];exact az) ?_;refine⟨_,rfl,_,rfl,?_⟩;intro x dx hx pS fR;exact sy (n:=n) hx pS λH' a Ya _ tk=>k H' a (sm.trans Ya) tk
end
def Pj:Str:=" \t\n"
def Sr:Str:=LA++"."++Pj++nZ++"!"
def O_:List Nat:=[97,98,99,100,101,102,103,104,105,106,107,108,109,110,111,112,113,114,115,116,117,118,119,120,121,122,65,66,67,68,69,70,71,72,73,74,75,76,77,78,79,80,81,82,83,84,85,86,87,88,89,90,48,49,50,51,52,53,54,55,56,57,46,32,9,10,40,41,91,93,123,125,58,43,45,124,42,38,61,60,62,33]
theorem Sf:Sr.cps.toList=O_:=by decide +kernel
theorem VZ:O_.Nodup:=by decide +kernel
theorem VY:∀n<256,decide (n∈O_)=TC n:=by decide +kernel
def Xi(c:Nat):Key×V:=(Sum.inl (c:Int),V.str ⟨#[c]⟩)
theorem Ez:∀(L:List Nat) (n:Nat),jh (L.map Xi) (Sum.inl (n:Int))=if n∈L then some (V.str ⟨#[n]⟩)else none
 |[],n=>rfl
 |c::L,n=>by
  have ih:=Ez L n;unfold jh at ih ⊢;rw[cz,List.find?_cons];by_cases h:c=n
  ·subst h;rw[aN (show(Xi c).1=Sum.inl (c:Int)from rfl),ai bB];rfl
  ·have fR:¬(Xi c).1=Sum.inl (n:Int):=λq=>h (by have:=Sum.inl.inj q;omega)
   rw[aQ fR];dsimp only;rw[ih];by_cases hm:n∈L
   ·rw[ai hm,ai (aS _ hm)]
   ·rw[ah hm,ah (λq=>(List.mem_cons.mp q).elim (λz=>h z.symm) hm)]
theorem DZ:∀ls:List (List Nat),TL.D0 [] ls=ls.flatten
 |[]=>rfl
 |[p]=>by simp[TL.D0]
 |p::q::r=>by
  have:=DZ (q::r);show p++([]++TL.D0 [] (q::r))=p++(q::r).flatten;rw[this];rfl
theorem KH(l:List Nat):Txt.join "" (l.map λc=>(⟨#[c]⟩:Str))=dS l:=by
 rw[TL.join_eq];apply TL.RO;rw[TL.LL,show TL.tl ("":Str)=[] by decide +kernel,DZ,List.map_map];show(l.map (TL.tl∘λc=>(⟨#[c]⟩:Str))).flatten=l
 induction l with
 |nil=>rfl
 |cons c l ih=>
  show [c]++(l.map (TL.tl∘λc=>(⟨#[c]⟩:Str))).flatten=c::l;rw[ih];rfl
theorem HR:∀l:List Nat,((l.map λc=>(⟨#[c]⟩:Str)).map (·.length)).sum=l.length
 |[]=>rfl
 |c::l=>by
  have:=HR l;rw[cz,cz,List.sum_cons,this,di];show 1+l.length=_;omega
theorem xw:ax ["codes","signs","sign","code"] ["codes"] (ak vO):=⟨rfl,rfl,rfl,by decide +kernel,rfl,by decide +kernel,by decide +kernel⟩
section
inductive EJ(vs:List V)(H:Hp)(Q:VK)(_E:XK):Prop
 |mk (a:Addr) (b:Bytes):vs=[.ref a]->dI H a b->b.length<=5000->(∀H':Hp,a9 H H'->Q (dM (txt b)) H')->EJ vs H Q _E
theorem Km(F:bU K "as_text" "as_text" vO f fd)(hA:GS mg "LETTERS_AND_DIGITS" LA)(hP:GS mg "POINT" ".")(hB:GS mg "BLANKS" Pj)(hS:GS mg "SHORT_SIGNS" nZ)(Wt:mg "ord"=none):aP P w K mg base aV 1 f fd ["codes"] EJ:=by
 refine F.ok xw (λvs H Q E h=>?_) (λbG A outer s H vs Q E hr h=>?_)
 ·obtain⟨a,b,rfl,_⟩:=h;rfl
 ·obtain⟨a,b,rfl,hb,hl,k⟩:=h;have nd:=xw.nd;have hu:=Y1 hr;refine⟨_,ae (aB (i:=1) nd rfl (Or.inr rfl) QG)
   (ae (gF PassesOwn.never rfl (Qz (bb nu (bb nu (bb nu (bb nu (HJ hA) (HJ hP)) (HJ hB)) (HJ hS)) fj)) (bR (i:=2) nd rfl (Or.inl rfl))
    (ag (Th hu (pv 1) (cb Jm (by rfl) Wt PyProof.Rows.boot_ord (aa (pv 2) aj)) (pv 2) rfl)))
   (ag (aq (Tr fj (uw (own:=[("code",3)]) rfl nd (dG (pv 0)) (eO rfl) (λs H C cl fp=>bR (i:=3) nd rfl (Or.inl rfl)) (λs H C cl fp=>iT) (λs H C cl fp=>QH hu (pv 1) (pv 3) fj ⟨rfl,rfl,rfl,rfl⟩)))))),?_⟩
  refine λD hD=>?_
  have sD:=aA (o:=.dK []) hD;refine⟨_,_,rfl,rfl,(by decide +kernel),_,_,rfl,rfl,(by decide +kernel),_,_,rfl,rfl,(by decide +kernel),_,_,rfl,rfl,(by decide +kernel),Sr,rfl,?_⟩;have sz:Sr.cps.size=O_.length:=by rw[<-Sf];simp
  have at_:∀i:Nat,Sr.cps[i]? =O_[i]? :=λi=>by rw[<-Sf];simp
  refine My (x:=Sr) (λi σ H'=>∃v2:Option V,σ=[some (.ref a),some (.ref D),v2,none]/\H' D=some (.dK ((O_.take i).map Xi))/\a9 H H') ⟨none,rfl,af,sD⟩ ?_ ?_
  ·rintro i c σ H1 hc ⟨v2,rfl,hd,sm⟩
   rw[at_]at hc;have hi:i<O_.length:=(List.getElem?_eq_some_iff.mp hc).1;refine⟨_,rfl,_,rfl,_,rfl,_,rfl,rfl,D,_,rfl,Sm.k (k:=Sum.inl (c:Int)) hd (by rw[aH,bE];exact zt (by have:O_.length=82:=rfl;omega)),?_⟩;have hnm:c ∉ O_.take i:=by
    intro hm;obtain⟨j,hj⟩:=List.mem_iff_getElem?.mp hm;have hji:j<i:=by
     have:=(List.getElem?_eq_some_iff.mp hj).1;rw[bE]at this;omega
    rw[List.getElem?_take_of_lt hji]at hj;have:=UR VZ hj hc;omega
   have ep:putK ((O_.take i).map Xi) (Sum.inl (c:Int)) (V.str ⟨#[c]⟩)=(O_.take (i+1)).map Xi:=by
    rw[Qu _ (by rw[Ez,ah hnm]),List.take_add_one,hc,bH];rfl
   rw[ep];refine⟨some (.str ⟨#[c]⟩),rfl,af,λb' o e=>?_⟩;have:b'≠D:=au e hD;rw[ao this];exact sm b' o e
  ·rintro σ H1 ⟨v2,rfl,hd,sm⟩
   rw[sz,List.take_length]at hd;refine⟨⟨_,rfl⟩,_,rfl,a,rfl,⟨_,bp.of (sm _ _ hb)⟩,λE0' hE0=>nV (K:=K) (a:=a) (xs:=bV b) (λi H'=>H' E0'=some (.lst (((txt b).take i).map λc=>V.str ⟨#[c]⟩))/\a9 H1 H')
    ⟨af,aA hE0⟩ (λi H' _ ⟨_,s2⟩=>bp.of (s2 _ _ (sm _ _ hb))) ?_ ?_⟩
   ·rintro i x H2 hi ⟨oJ,s2⟩
    obtain⟨c,hc,rfl⟩:∃c,b[i]? =some c/\x=vN c.toNat:=by
     unfold bV at hi;rw[bO]at hi;cases e:b[i]? with
     |none=>rw[e]at hi;cases hi
     |some c=>rw[e]at hi;exact⟨c,rfl,(aO hi).symm⟩
    have hib:i<b.length:=(List.getElem?_eq_some_iff.mp hc).1;have hd2:=s2 _ _ hd;refine⟨rfl,rJ ?_⟩;refine⟨_,rfl,D,rfl,?_,_,rfl,_,Sn.k (k:=Sum.inl (c.toNat:Int)) hd2,?_⟩
    ·exact .inl ⟨_,.inl hd2⟩
    ·rw[Ez];have eo:(if c.toNat∈O_ then some (V.str ⟨#[c.toNat]⟩)else none).getD (.str "?")=V.str ⟨#[sub c.toNat]⟩:=by
      have ho:=VY c.toNat (Vh c);by_cases hm:c.toNat∈O_
      ·rw[ai hm];rw[aN hm]at ho;unfold sub;rw[ai ho.symm];rfl
      ·rw[ah hm];rw[aQ hm]at ho;unfold sub;rw[ah (by rw[<-ho];exact az)];show V.str "?"=V.str ⟨#[63]⟩;rw[show("?":Str)=⟨#[63]⟩ by decide +kernel]
     rw[eo];refine⟨_,oJ,?_,?_,λb' o e=>?_⟩
     ·rw[aH,bE];exact gX (Nat.min_le_left _ _) (dh hib (a8 hl (by decide)))
     ·rw[af,List.take_add_one];have:(txt b)[i]? =some (sub c.toNat):=by unfold txt;rw[bO,hc];rfl
      rw[this,bH];rfl
     ·have:b'≠E0':=au e hE0;rw[ao this];exact s2 b' o e
   ·rintro H2 ⟨oJ,s2⟩
    rw[dq,<-qm,List.take_length]at oJ;refine⟨"",E0',(txt b).map λc=>(⟨#[c]⟩:Str),rfl,rfl,.inl (bp.of (by rw[List.map_map];exact oJ)),?_,?_⟩
    ·rw[HR];show(txt b).length+_*0<=16777216;rw[qm];omega
    ·rw[KH];exact k H2 (sm.trans s2)
end
def uY:List Nat:=[101,110,100]
structure p_(C:Addr)(H:Hp)(l:Toks)(as:List Addr):Prop where
 len:as.length=l.length
 at_:∀(i:Nat) (a:Addr) (x:Sf84.Tok×Nat),as[i]? =some a->l[i]? =some x->oO C H a (JP x.1) x.2 (M3 x.1)
theorem p_.same{C:Addr}{H H':Hp}{l:Toks}{as:List Addr}(R:p_ C H l as)(s:a9 H H'):p_ C H' l as:=⟨R.len,λi a x h1 h2=>(R.at_ i a x h1 h2).same s⟩
theorem p_.snoc{l:Toks}{x:Sf84.Tok×Nat}(R:p_ C H l as)(h:oO C H a (JP x.1) x.2 (M3 x.1)):p_ C H (l++[x]) (as++[a]):=by
 refine⟨by rw[ba,ba,R.len];rfl,λi b y h1 h2=>?_⟩;by_cases hi:i<as.length
 ·rw[gY hi]at h1;rw[gY (by rw[<-R.len];exact hi)]at h2;exact R.at_ i b y h1 h2
 ·have JF:as.length<=i:=Ew hi;rw[jy JF]at h1;rw[jy (by rw[<-R.len];exact JF),<-R.len]at h2;have h0:i - as.length=0:=by
   have:=(List.getElem?_eq_some_iff.mp h1).1;simp at this;omega
  rw[h0]at h1 h2;cases h1;cases h2;exact h
structure Bn(C:Addr)(H:Hp)(ta:Addr)(l:Toks)(e:Nat)(as:List Addr)(ea:Addr):Prop where
 lst:H ta=some (.lst ((as++[ea]).map V.ref))
 row:p_ C H l as
 fin:oO C H ea uY e 0
theorem W7:∀c<128,decide (c∈Pj.cps.toList)=sX c:=by decide +kernel
theorem zb(b:Bytes):∀c∈txt b,c<128:=by
 intro c hc;unfold txt at hc;obtain⟨x,_,rfl⟩:=List.mem_map.mp hc;have:∀n<256,sub n<128:=by decide +kernel
 exact this x.toNat (Vh x)
theorem PM(b:Bytes)(p:Nat):(txt b).drop p=txt (b.drop p):=by
 unfold txt;rw[List.map_drop]
theorem DH(h:∀c∈t,c<128):bJ t=[]\/bJ t∈dD\/(bJ t).length=1\/∃c r,bJ t=c::r/\c ∉ dn:=by
 unfold bJ;by_cases h1:0<(t.takeWhile dN).length
 ·rw[ai h1];cases e:t.takeWhile dN with
  |nil=>exact .inl rfl
  |cons c r=>
   refine .inr (.inr (.inr ⟨c,r,rfl,λhc=>?_⟩));have hw:dN c=true:=by
    have:c∈t.takeWhile dN:=by rw[e];exact bB
    exact List.all_eq_true.mp (List.all_takeWhile (l:=t) (p:=dN)) c this
   have:∀z∈dn,dN z=false:=by decide
   rw[this c hc]at hw;cases hw
 ·rw[ah h1];by_cases h2:t.take 2∈dD
  ·rw[ai h2];exact .inr (.inl h2)
  ·rw[ah h2];cases t with
   |nil=>exact .inl rfl
   |cons c r=>exact .inr (.inr (.inl rfl))
theorem Qx{c:UInt8}{r:Bytes}:bJ (txt (c::r))≠[]:=by
 intro h;unfold bJ at h;split at h
 ·rename_i q;rw[h]at q;exact absurd q (by decide)
 ·split at h
  ·exact absurd h (by unfold txt;simp)
  ·exact absurd h (by unfold txt;simp)
theorem Nl:∀c∈bJ t,c∈t:=by
 intro c hc;unfold bJ at hc;split at hc
 ·exact(List.takeWhile_sublist _).mem hc
 ·split at hc
  ·exact List.mem_of_mem_take hc
  ·exact List.mem_of_mem_take hc
theorem Qy:(bJ t).length<=t.length:=by
 unfold bJ;split
 ·exact(List.takeWhile_sublist _).length_le
 ·split
  ·rw[bE];omega
  ·rw[bE];omega
section
inductive EI(C:Addr)(vs:List V)(H:Hp)(Q:VK)(E:XK):Prop
 |mk (a:Addr) (b:Bytes):vs=[.ref a]->dI H a b->b.length<=1100->((match toks 0 b with| .ok l=>∀(H':Hp) (ta:Addr) (as:List Addr) (ea:Addr),a9 H H'->Bn C H' ta l b.length as ea->Q (.ref ta) H'| .error p=>∀(H':Hp) (a:Addr),a9 H H'->E (.int p 0) (some a) H'))->EI C vs H Q E
theorem Fl{CE:Addr}(F:bU K "tokens_of" "tokens_of" ph f fd)(T:Bo K mg C)(M:Makes P w K mg C 1 (i5 C))(R:Bq K mg CE N fI jD)(hB:GS mg "BLANKS" Pj)(hE:GS mg "TEXT_END" (dS uY))(hlen:mg "len"=none)
  (mT:mg "as_text"=some (.ref fT)) (cT:Calls aV P w K mg fT 1 EJ) (mP:mg "piece_at"=some (.ref fP)) (cP:Calls aV P w K mg fP 2 yD) (mK:mg "token_of"=some (.ref fK)) (cK:Calls (gq P w CE) P w K mg fK 4 (Qa C)):
  aP P w K mg base (gq P w CE) 5 f fd ["codes"] (EI C):=by
 refine bU.JA F ua (λvs H Q E h=>?_) (λbG A outer s H vs Q E hr h=>?_)
 ·obtain⟨a,b,rfl,_⟩:=h;rfl
 ·obtain⟨a,b,rfl,hb,Mq,k⟩:=h;have nd:=ua.nd;refine⟨_,ae (aB (i:=1) nd rfl (Or.inl rfl) (aR cT mT (hr.mono (by decide)) aE (aa (pv 0) aj)))
   (ae (aB (i:=2) nd rfl (Or.inl rfl) (aY aj))
   (ae (aB (i:=3) nd rfl (Or.inl rfl) ay)
   (ae (fi PassesOwn.leaving (aF oz (pv 3) (cb jF (by rfl) hlen PySem.boot_len (aa (pv 1) aj)) (aK _))
    (ag (a7 (aF sf (bu FU (pv 1) (pv 3) (λ_ _=>rfl)) (HJ hB) rfl) (ag (lG (i:=3) nd rfl (Or.inl rfl) ay lJ))
     (ae (aB (i:=4) nd rfl (Or.inl rfl) (aR cP mP (hr.mono (by decide)) aE (aa (pv 1) (aa (pv 3) aj))))
     (ae (aU (lZ PySem.F.plainAttrs_list PySem.F.slot_list_append PySem.F.type_list_append eA (pv 2) (aa (aR cK mK hr df (aa (pv 4) (aa (pv 3) aj))) aj)))
     (ag (lG (i:=3) nd rfl (Or.inl rfl) (cb jF (by rfl) hlen PySem.boot_len (aa (pv 4) aj)) lJ)))))))
   (ae (aU (lZ PySem.F.plainAttrs_list PySem.F.slot_list_append PySem.F.type_list_append eA (pv 2) (aa (kO M T.nm (hr.mono (by decide)) (aa (HJ hE) (aa (cb jF (by rfl) hlen PySem.boot_len (aa (pv 1) aj)) (aa ay aj)))) aj)))
   (ag (aq (pv 2))))))),?_⟩
  have Y2:(dS (txt b)).length=b.length:=by show(txt b).toArray.size=_;simp[qm]
  have hsz:(dS (txt b)).length<=sizeLine:=by rw[Y2];exact a8 Mq (by decide)
  refine⟨_,rfl,a,b,rfl,hb,by omega,λH0 s0=>?_⟩;refine⟨bw _,λta hta=>?_⟩;have sTa:a9 H (upd H0 ta (.lst [])):=s0.trans (aA hta);have Y3:H ta=none:=s0.free hta;refine eY (λσ H'=>∃(p:Nat) (l:Toks) (as:List Addr) (v4:Option V),σ=[some (.ref a),some (dM (txt b)),some (.ref ta),some (vN p),v4]/\p<=b.length/\l.length<=p/\H' ta=some (.lst (as.map V.ref))/\p_ C H' l as/\(∀r∈as,r≠ta)/\a9 H H'/\toks 0 b=(toks p (b.drop p)).map λr=>l++r)
   (λσ _=>b.length - intAt σ 3) ⟨0,[],[],none,rfl,bw _,aM _,af,⟨rfl,λi a x h=>by simp at h⟩,λr h=>(by simp at h),sTa,?_⟩ ?_ ?_
  ·show toks 0 b=(toks 0 b).map λr=>[]++r
   cases toks 0 b<;>rfl
  ·rintro σ H1 ⟨p,l,as,v4,rfl,hp,hlp,hl,row,nta,sm,et⟩
   refine⟨_,rfl,_,rfl,_,rfl,hsz,_,_,rfl,rfl,_,rfl,?_⟩;rw[Y2];refine eM (λeP=>?_) λeP=>?_
   ·have Ct:p<b.length:=by
     have:=cj eP;omega
    have hd:b.drop p=b[p]::b.drop (p+1):=eT Ct;have htp:(txt b)[p]? =some (sub (b[p]).toNat):=by unfold txt;rw[bO,bx Ct];rfl
    have JC:sub (b[p]).toNat<128:=zb b _ (d7 htp);refine⟨_,rfl,_,rfl,_,(p:Int),_,rfl,rfl,hsz,bW htp,sub (b[p]).toNat,Pj,rfl,rfl,_,rfl,?_⟩;rw[W7 _ JC,O4,<-N5];rw[hd]at et;refine eM (λhbk=>?_) λhbk=>?_
    ·rw[JO hbk]at et;refine⟨_,rfl,_,_,rfl,rfl,?_⟩;have e1:(p:Int)+1=((p+1:Nat):Int):=by omega
     refine⟨⟨p+1,l,as,v4,?_,by omega,by omega,hl,row,nta,sm,et⟩,?_⟩
     ·show [some (V.ref a),some (dM (txt b)),some (V.ref ta),some (V.int ((p:Int)+1)),v4]=_;rw[e1]
     ·show b.length - ((p:Int)+1).toNat<b.length - ((p:Int)).toNat;omega
    ·have ab0:Sf84.isBlank b[p]=false:=Bool.eq_false_iff.mpr hbk;have epd:(txt b).drop p=txt (b[p]::b.drop (p+1)):=by rw[PM,hd]
     refine⟨_,rfl,_,rfl,txt b,p,rfl,by rw[qm];exact Ct,zb b,by rw[qm];omega,?_⟩;rw[epd];have plt:∀c∈bJ (txt (b[p]::b.drop (p+1))),c<128:=λc hc=>zb _ c (Nl c hc)
     have ple:(bJ (txt (b[p]::b.drop (p+1)))).length<=b.length - p:=by
      refine a8 Qy ?_;rw[<-epd,a_,qm];exact aM _
     refine⟨_,rfl,.inl ⟨rfl,_,bp.of hl⟩,?_⟩;refine⟨_,rfl,_,rfl,bJ (txt (b[p]::b.drop (p+1))),p,rfl,?_⟩;rcases M1 (p:=p) (r:=b.drop (p+1)) ab0 with⟨t,el,pos,en⟩|⟨el,en⟩
     ·refine⟨(DH (zb _)).resolve_left (λe=>by rw[e]at pos;exact absurd pos (by decide)),plt,by omega,?_⟩;rw[el];intro H2 ea s2 tk;have eal:as.length=l.length:=row.len;have nea:ea≠ta:=λq=>by
       obtain⟨dx,e⟩:=tk;rw[q,s2 _ _ hl]at e;cases e
      refine⟨ta,_,.ref ea,rfl,rfl,s2 _ _ hl,by rw[aH];exact gX (by omega:as.length<=1100) (by decide),?_⟩;rw[show as.map V.ref++[V.ref ea]=(as++[ea]).map V.ref by rw[bH];rfl];have U0:(dS (bJ (txt (b[p]::b.drop (p+1))))).length=(bJ (txt (b[p]::b.drop (p+1)))).length:=by show(bJ _).toArray.size=_;simp
      have sU:a9 H (upd H2 ta (.lst ((as++[ea]).map V.ref))):=λc u e=>by rw[ao (au e Y3)];exact s2 _ _ (sm _ _ e)
      have abo:p_ C (upd H2 ta (.lst ((as++[ea]).map V.ref))) (l++[(t,p)]) (as++[ea]):=by
       refine p_.snoc ⟨row.len,λi c x h1 h2=>?_⟩ ?_
       ·obtain⟨dx,e⟩:=row.at_ i c x h1 h2;exact⟨dx,by rw[ao (nta c (d7 h1))];exact s2 _ _ e⟩
       ·obtain⟨dx,e⟩:=tk;exact⟨dx,by rw[ao nea];exact e⟩
      refine⟨_,rfl,_,rfl,_,rfl,by rw[U0];exact a8 (by omega:_<=1100) (by decide),_,_,rfl,rfl,?_⟩;have e1:(p:Int)+((dS (bJ (txt (b[p]::b.drop (p+1))))).length:Int)=((p+(bJ (txt (b[p]::b.drop (p+1)))).length:Nat):Int):=by rw[U0];omega
      refine⟨⟨p+(bJ (txt (b[p]::b.drop (p+1)))).length,l++[(t,p)],as++[ea],some (dM (bJ (txt (b[p]::b.drop (p+1))))),?_,by omega,by rw[ba];show l.length+1<=_;omega,af,abo,?_,sU,?_⟩,?_⟩
      ·show [some (V.ref a),some (dM (txt b)),some (V.ref ta),some (V.int ((p:Int)+((dS (bJ (txt (b[p]::b.drop (p+1))))).length:Int))),some (dM (bJ (txt (b[p]::b.drop (p+1)))))]=_;rw[e1]
      ·intro r Wq;rcases List.mem_append.mp Wq with h|h
       ·exact nta r h
       ·rw[List.mem_singleton.mp h];exact nea
      ·rw[et,en,<-hd,List.drop_drop];cases toks (p+(bJ (txt (List.drop p b))).length) (List.drop (p+(bJ (txt (List.drop p b))).length) b)with
       |error e=>rfl
       |ok r=>show Except.ok (l++(t,p)::r)=Except.ok (l++[(t,p)]++r);rw[dF];rfl
      ·show b.length - ((p:Int)+((dS (bJ (txt (b[p]::b.drop (p+1))))).length:Int)).toNat<b.length - ((p:Int)).toNat;rw[e1];omega
     ·have ne:bJ (txt (b[p]::b.drop (p+1)))≠[]:=Qx;refine⟨(DH (zb _)).resolve_left ne,plt,by omega,?_⟩;rw[el];intro H2 ea s2;rw[et,en]at k;exact k H2 ea (sm.trans s2)
   ·have Y9:p=b.length:=by
     have:¬(p:Int)<(b.length:Int):=λq=>eP (aN q)
     omega
    rw[Y9,List.drop_length,PQ]at et;rw[et]at k;refine⟨_,rfl,.inl ⟨rfl,_,bp.of hl⟩,?_⟩;refine⟨_,rfl,_,rfl,hsz,?_⟩;rw[Y2];intro x dx hx pS fR;show i5 C [V.ref x,dM uY,vN b.length,vN 0] _ (λv H2=>v=V.dt/\qD (V.ref ta) [.ref x] H2 (λ_ H3=>vy (dJ 2) {nx:=λ_ H'=>Q .dt H',rt:=Q} [some (V.ref a),some (dM (txt b)),some (V.ref ta),some (vN p),v4] H3)) E0;refine sy (sg:=uY) (p:=b.length) (n:=0) (Q:=λy H2=>qD (V.ref ta) [y] H2 (λ_ H3=>vy (dJ 2) {nx:=λ_ H'=>Q .dt H',rt:=Q} [some (V.ref a),some (dM (txt b)),some (V.ref ta),some (vN p),v4] H3)) hx pS λH2 ea s2 hea tk=>?_
    have nea:ea≠ta:=λq=>by rw[q,hl]at hea;cases hea
    refine⟨ta,_,.ref ea,rfl,rfl,s2 _ _ hl,by rw[aH];have:=row.len;exact gX (by omega:as.length<=1100) (by decide),?_⟩;refine⟨_,rfl,?_⟩;refine k _ ta as ea (λc u e=>by rw[ao (au e Y3)];exact s2 _ _ (sm _ _ e)) ⟨?_,?_,?_⟩
    ·rw[af,bH];rfl
    ·show p_ C _ (l++[]) as;rw[gW];refine⟨row.len,λi c x h1 h2=>?_⟩;obtain⟨dx,e⟩:=row.at_ i c x h1 h2;exact⟨dx,by rw[ao (nta c (d7 h1))];exact s2 _ _ e⟩
    ·obtain⟨dx,e⟩:=tk;exact⟨dx,by rw[ao nea];exact e⟩
  ·intro σ H1 Q1 Q2 hq h;obtain⟨v1,e1,v2,e2,z,q1,q2,i1,j1,r1,r2,c,r3,rest⟩:=h;exact⟨v1,e1,v2,e2,z,q1,q2,i1,j1,r1,r2,c,r3,hq _ _ rest⟩
end
def J3:List Str:=["tokens","done","brackets"]
theorem uq:J3.Nodup:=by decide +kernel
def BU(t d b:V):List (Str×V):=J3.zip [t,d,b]
theorem UK(t d b:V):(BU t d b).lookup ("tokens":Str)=some t:=bM (i:=0) uq rfl rfl
theorem L1(t d b:V):(BU t d b).lookup ("done":Str)=some d:=bM (i:=1) uq rfl rfl
theorem Qp(t d b:V):(BU t d b).lookup ("brackets":Str)=some b:=bM (i:=2) uq rfl rfl
theorem VH(t d b v:V):bP "done" v (BU t d b)=BU t v b:=ic (i:=1) uq rfl rfl
theorem Qo(t d b v:V):bP "brackets" v (BU t d b)=BU t d v:=ic (i:=2) uq rfl rfl
theorem ow(t d b:V)(h:m ∉ J3):(BU t d b).lookup m=none:=by
 unfold BU;cases e:(J3.zip [t,d,b]).lookup m with
 |none=>rfl
 |some v=>
  exfalso;have:(m,v)∈J3.zip [t,d,b]:=by
   have key:∀{l:List (Str×V)},l.lookup m=some v->(m,v)∈l:=by
    intro l
    induction l with
    |nil=>intro h;cases h
    |cons x r ih=>
     obtain⟨a,c⟩:=x;intro h;rw[List.lookup_cons]at h;split at h
     ·rename_i q;cases h;rw[beq_iff_eq.mp q];exact bB
     ·exact aS _ (ih h)
   exact key e
  exact h (List.of_mem_zip this).1
structure vm(K:Frag)(mg:Str->Option Value)(C:Addr):Prop where
 cl:G0 K C
 nT:b_ K C "tokens"
 nD:b_ K C "done"
 nB:b_ K C "brackets"
 nm:mg "Reader"=some (.ref C)
structure RC where
 CR:Addr
 CT:Addr
 ra:Addr
 dx:Addr
 ta:Addr
 l:Toks
 e:Nat
 as:List Addr
 ea:Addr
structure dw(R:RC)(H:Hp)(r:Toks)(o:Nat):Prop where
 at_:∃n,H R.ra=some (.ins R.CR R.dx (BU (.ref R.ta) (vN n) (vN o)))/\R.l.drop n=r/\n<=R.l.length
 tk:Bn R.CT H R.ta R.l R.e R.as R.ea
def l_:Toks->List Nat
 |x::_=>JP x.1
 |[]=>uY
def Uu:Toks->Nat
 |x::_=>M3 x.1
 |[]=>0
def Moved(ra:Addr)(H H':Hp):Prop:=∀b u,H b=some u->b≠ra->H' b=some u
theorem Moved.refl:Moved ra H H:=λb u e _=>e
theorem Moved.trans(x:Moved ra H H1)(y:Moved ra H1 H2):Moved ra H H2:=λb u e n=>y b u (x b u e n) n
theorem Moved.of(s:a9 H H'):Moved ra H H':=λb u e _=>s b u e
theorem jJ{o:HO}:Moved ra H (upd H ra o):=λb u e n=>by rw[ao n];exact e
theorem oO.V1{d:V}(h:oO C H a sg p n)(e:H ra=some (.ins CR dx (BU (.ref ta) d b))):a≠ra:=by
 rintro rfl
 obtain⟨dy,h⟩:=h;rw[e]at h;have:=(HO.ins.inj (aO h)).2.2;unfold BU Vl J3 Vk at this;simp only [List.zip_cons_cons,List.cons.injEq,Prod.mk.injEq]at this;exact absurd this.1.1 (by decide +kernel)
theorem oO.moved{d:V}(h:oO C H a sg p n)(e:H ra=some (.ins CR dx (BU (.ref ta) d b)))(m:Moved ra H H'):oO C H' a sg p n:=by
 have ne:=h.V1 e;obtain⟨dy,h⟩:=h;exact⟨dy,m _ _ h ne⟩
theorem Bn.moved{C CR dx:Addr}{H H':Hp}{l:Toks}{e:Nat}{as:List Addr}{d:V}(h:Bn C H ta l e as ea)(he:H ra=some (.ins CR dx (BU (.ref t) d b)))(m:Moved ra H H'):Bn C H' ta l e as ea:=by
 refine⟨m _ _ h.lst ?_,⟨h.row.len,λi a x h1 h2=>(h.row.at_ i a x h1 h2).moved he m⟩,h.fin.moved he m⟩
 rintro rfl
 have:=h.lst;rw[he]at this;cases this
theorem dw.same(h:dw R H r o)(s:a9 H H'):dw R H' r o:=by
 obtain⟨⟨n,h1,h2,h3⟩,t⟩:=h;exact⟨⟨n,s _ _ h1,h2,h3⟩,t.moved h1 (.of s)⟩
theorem dw.GZ(h:dw R H r o)(h2:R.l.drop n=r)(h3:n<=R.l.length):∃a,(R.as++[R.ea])[n]? =some a/\oO R.CT H a (l_ r) (Sf84.here R.e r) (Uu r):=by
 have hl:=h.tk.row.len;cases r with
 |nil=>
  have hn:n=R.l.length:=by
   have:=List.drop_eq_nil_iff.mp h2;omega
  refine⟨R.ea,?_,h.tk.fin⟩;rw[jy (by omega),show n - R.as.length=0 by omega];rfl
 |cons x q=>
  have hn:R.l[n]? =some x:=by
   have:=congrArg (λz=>z[0]?) h2;simp at this;exact this
  have eP:n<R.l.length:=(List.getElem?_eq_some_iff.mp hn).1;have ha:R.as[n]? =some R.as[n]:=bx (by omega);refine⟨R.as[n],?_,h.tk.row.at_ n _ x ha hn⟩;rw[gY (by omega)];exact ha
section
inductive tV(C:Addr)(vs:List V)(H:Hp)(Q:VK)(_E:XK):Prop
 |mk (a dx:Addr) (t:V):vs=[.ref a,t]->H a=some (.ins C dx [])->(∀H':Hp,H' a=some (.ins C dx (BU t (vN 0) (vN 0)))->(∀b u,H b=some u->b≠a->H' b=some u)->Q .dt H')->tV C vs H Q _E
theorem Aw(F:bU K "__init__" "Reader.__init__" lE f fd)(T:vm K mg C):aP P w K mg base aV 1 f fd ["self","tokens"] (tV C):=by
 refine F.ok zM (λvs H Q E h=>?_) (λbG A outer s H vs Q E hr h=>?_)
 ·obtain⟨a,dx,t,rfl,_⟩:=h;rfl
 ·obtain⟨a,dx,t,rfl,hp,k⟩:=h;refine⟨_,ae (cv (pv 0) (pv 1) rfl) (ae (cv (pv 0) ay rfl) (ag (cv (pv 0) ay rfl))),?_⟩;refine⟨_,rfl,_,rfl,a,C,dx,[],rfl,hp,T.cl,T.nT,(by show 0<1000;decide),?_⟩;refine⟨_,rfl,a,C,dx,_,rfl,af,T.cl,T.nD,(by show 1<1000;decide),?_⟩;have e1:bP "done" (vN 0) (bP "tokens" t [])=(["tokens","done"]:List Str).zip [t,vN 0]:=ie (ns:=["tokens"]) (vs:=[t]) (by decide +kernel) rfl;have e1':bP "done" (V.int 0) (bP "tokens" t [])=(["tokens","done"]:List Str).zip [t,vN 0]:=e1;rw[e1'];refine⟨_,rfl,a,C,dx,_,rfl,af,T.cl,T.nB,(by show 2<1000;decide),?_⟩;have e2:bP "brackets" (V.int 0) ((["tokens","done"]:List Str).zip [t,vN 0])=BU t (vN 0) (vN 0):=ie (ns:=["tokens","done"]) (vs:=[t,vN 0]) (by decide +kernel) rfl;refine k _ (by rw[af,e2]) λb u hb fR=>?_
  rw[ao fR,ao fR,ao fR];exact hb
inductive i6(CR CT:Addr)(vs:List V)(H:Hp)(Q:VK)(_E:XK):Prop
 |mk (R:RC) (r:Toks) (o:Nat):vs=[.ref R.ra]->R.CR=CR->R.CT=CT->dw R H r o->R.l.length<=1100->(∀a,oO CT H a (l_ r) (Sf84.here R.e r) (Uu r)->Q (.ref a) H)->i6 CR CT vs H Q _E
theorem v9(F:bU K "coming" "Reader.coming" jk f fd)(T:vm K mg C):aP P w K mg base aV 1 f fd ["self"] (i6 C CT):=by
 refine F.ok vE (λvs H Q E h=>?_) (λbG A outer s H vs Q E hr h=>?_)
 ·obtain⟨R,r,o,rfl,_⟩:=h;rfl
 ·obtain⟨R,r,o,rfl,rfl,rfl,hR,hl,k⟩:=h;refine⟨_,ag (aq (bu bq (aD (pv 0) rfl) (aD (pv 0) rfl) (λ_ _=>rfl))),?_⟩;obtain⟨n,h1,h2,h3⟩:=hR.at_;obtain⟨a,ha,tk⟩:=hR.GZ h2 h3;refine⟨_,rfl,_,_,_,_,_,rfl,h1,T.cl,T.nT,UK _ _ _,_,rfl,_,_,_,_,_,rfl,h1,T.cl,T.nD,L1 _ _ _,_,_,(n:Int),.ref a,rfl,rfl,bp.of hR.tk.lst,bW (by rw[bO,ha];rfl),?_⟩;exact k a tk
theorem dw.on{x:Sf84.Tok×Nat}(h:dw R H (x::r) o)(h1:H R.ra=some (.ins R.CR R.dx (BU (.ref R.ta) (vN n) (vN o))))(h2:R.l.drop n=x::r):dw R (upd H R.ra (.ins R.CR R.dx (BU (.ref R.ta) (vN (n+1)) (vN o')))) r o':=by
 have eP:n<R.l.length:=by
  have:=congrArg List.length h2;rw[a_]at this;simp at this;omega
 refine⟨⟨n+1,af,?_,eP⟩,h.tk.moved h1 jJ⟩;have:=congrArg List.tail h2;rw[List.tail_drop]at this;exact this
inductive zk(CR CT:Addr)(vs:List V)(H:Hp)(Q:VK)(_E:XK):Prop
 |mk (R:RC) (r:Toks) (o:Nat):vs=[.ref R.ra]->R.CR=CR->R.CT=CT->dw R H r o->R.l.length<=1100->(∀(H':Hp) (a:Addr),Moved R.ra H H'->(∀x r',r=x::r'->dw R H' r' o)->oO CT H' a (l_ r) (Sf84.here R.e r) (Uu r)->Q (.ref a) H')->zk CR CT vs H Q _E
theorem Av(F:bU K "take" "Reader.take" lD f fd)(T:vm K mg C):aP P w K mg base aV 1 f fd ["self"] (zk C CT):=by
 refine F.ok o_ (λvs H Q E h=>?_) (λbG A outer s H vs Q E hr h=>?_)
 ·obtain⟨R,r,o,rfl,_⟩:=h;rfl
 ·obtain⟨R,r,o,rfl,rfl,rfl,hR,hl,k⟩:=h;have nd:=o_.nd;refine⟨_,ae (aB (i:=1) nd rfl (Or.inl rfl) (bu bq (aD (pv 0) rfl) (aD (pv 0) rfl) (λ_ _=>rfl)))
   (ae (gT (pv 0) ay wC) (ag (aq (pv 1)))),?_⟩
  obtain⟨n,h1,h2,h3⟩:=hR.at_;obtain⟨a,ha,tk⟩:=hR.GZ h2 h3;refine⟨_,rfl,_,_,_,_,_,rfl,h1,T.cl,T.nT,UK _ _ _,_,rfl,_,_,_,_,_,rfl,h1,T.cl,T.nD,L1 _ _ _,_,_,(n:Int),.ref a,rfl,rfl,bp.of hR.tk.lst,bW (by rw[bO,ha];rfl),?_⟩;refine⟨_,rfl,R.ra,R.CR,R.dx,_,_,rfl,h1,T.cl,T.nD,L1 _ _ _,_,_,rfl,rfl,R.dx,_,h1,(by show 3<1000;decide),?_⟩;rw[VH,show V.int ((n:Int)+1)=vN (n+1) by show _=V.int ((n+1:Nat):Int);rw[tD];rfl];refine⟨_,rfl,?_⟩;refine k _ a jJ (λx r' e=>?_) (tk.moved h1 jJ);subst e;exact hR.on h1 h2
end
structure bh(CX:JI)(P:Program)(w:World)(K:Frag)(mg:Str->Option Value)(C:Addr)(m:Str)(k:Nat)(sp:Sp):Prop where
 ex:∃(f:Addr) (fd:FuncData) (ps:List Str),Meth K C m f/\(∀base,aP P w K mg base CX k f fd ps sp)/\Binds K fd ps []
theorem dj{X:Cx}{o e:Expr}(M:bh CX X.prog X.w X.K X.mg C m k sp)(c:G0 X.K C)(he:PE X o ta)(hr:dR k X.A)(hx:Passes CX X E)(ha:PA X (e::es) t)
  (sI:starEach (e::es) X.env=(false,eval e X.env)::starEach es X.env:=by rfl) (uT:(backTo pos (starEach es X.env)).any (·.1)=false:=by rfl)
  (ht:eval (.Call (.Attribute o m apos) (e::es) [] pos) X.env=(do
   let ov<-eval o X.env
   standAt apos.atName
   let (f,first)<-holding [ov] (getMethod ov m pl)
   callWith pos f first (backTo pos (starEach (e::es) X.env)) (backToKw pos (keywordEach [] X.env))):=by rfl):
  PE X (.Call (.Attribute o m apos) (e::es) [] pos) (oX C m sp [] E ta t):=by
 obtain⟨f,fd,ps,hm,F,b⟩:=M.ex;exact To (pl:=pl) he c hm (F X.base) hr b .nil hx ha sI uT ht
theorem bT{X:Cx}{o:Expr}(M:bh CX X.prog X.w X.K X.mg C m k sp)(c:G0 X.K C)(he:PE X o ta)(hr:dR k X.A)(hx:Passes CX X E)
  (ht:eval (.Call (.Attribute o m apos) [] [] pos) X.env=(do
   let ov<-eval o X.env
   standAt apos.atName
   let (f,first)<-holding [ov] (getMethod ov m pl)
   callWith pos f first (backTo pos (starEach [] X.env)) (backToKw pos (keywordEach [] X.env))):=by rfl):
  PE X (.Call (.Attribute o m apos) [] [] pos) (oX C m sp [] E ta gj):=by
 obtain⟨f,fd,ps,hm,F,b⟩:=M.ex;exact QD (pl:=pl) he c hm (F X.base) hr b .nil hx ht
theorem Hi{a:List Nat}:dM a=dM b↔a=b:=by
 constructor
 ·intro h;have h1:=congrArg Str.cps (V.str.inj h);have h2:=congrArg Array.toList h1;simpa [dS]using h2
 ·intro h;rw[h]
theorem ZP{a:List Nat}:decide (dM a=dM b)=decide (a=b):=by
 by_cases h:a=b
 ·rw[aN h,aN (Hi.mpr h)]
 ·rw[aQ h,aQ (λq=>h (Hi.mp q))]
theorem dw.br(h:dw R H r o)(h1:H R.ra=some (.ins R.CR R.dx (BU (.ref R.ta) (vN n) (vN o))))(h2:R.l.drop n=r)(h3:n<=R.l.length):dw R (upd H R.ra (.ins R.CR R.dx (BU (.ref R.ta) (vN n) (vN o')))) r o':=
 ⟨⟨n,af,h2,h3⟩,h.tk.moved h1 jJ⟩
structure Xd(P:Program)(w:World)(K:Frag)(mg:Str->Option Value)(CR CT CE N fI:Addr)(jD:FuncData):Prop where
 R:vm K mg CR
 T:Bo K mg CT
 X:Bq K mg CE N fI jD
 GZ:bh aV P w K mg CR "coming" 1 (i6 CR CT)
 Pl:bh aV P w K mg CR "take" 1 (zk CR CT)
section
inductive zm(CR CT:Addr)(vs:List V)(H:Hp)(Q:VK)(E:XK):Prop
 |mk (R:RC) (r:Toks) (o:Nat) (sg:List Nat):vs=[.ref R.ra,dM sg]->R.CR=CR->R.CT=CT->dw R H r o->R.l.length<=1100->((l_ r=sg->∀(H':Hp) (a:Addr),Moved R.ra H H'->(∀x r',r=x::r'->dw R H' r' o)->oO CT H' a (l_ r) (Sf84.here R.e r) (Uu r)->Q (.ref a) H'))->((l_ r≠sg->∀(H':Hp) (a:Addr),Moved R.ra H H'->E (.int (Sf84.here R.e r:Nat) 0) (some a) H'))->zm CR CT vs H Q E
theorem Fo{CE:Addr}(F:bU K "take_only" "Reader.take_only" gz f fd)(D:Xd P w K mg CR CT CE N fI jD):aP P w K mg base (gq P w CE) 2 f fd ["self","sign"] (zm CR CT):=by
 refine bU.JA F qK (λvs H Q E h=>?_) (λbG A outer s H vs Q E hr h=>?_)
 ·obtain⟨R,r,o,sg,rfl,_⟩:=h;rfl
 ·obtain⟨R,r,o,sg,rfl,rfl,rfl,hR,hl,k1,k2⟩:=h;refine⟨_,ae (a7 (aF j0 (aD (bT D.GZ D.R.cl (pv 0) hr aE) rfl) (pv 1) (aK _)) (ag (lY D.X df hr (aD (bT D.GZ D.R.cl (pv 0) hr aE) rfl))) aJ)
   (ag (aq (bT D.Pl D.R.cl (pv 0) hr aE))),?_⟩
  obtain⟨n,h1,h2,h3⟩:=hR.at_;refine⟨_,rfl,R.ra,R.dx,_,rfl,h1,ow _ _ _ (by decide +kernel),R,r,o,rfl,rfl,rfl,hR,hl,λa tk=>?_⟩;have tk0:=tk;obtain⟨dx,tk⟩:=tk;refine⟨_,_,_,_,_,rfl,tk,D.T.cl,D.T.nS,Hb _ _ _,_,rfl,rfl,_,rfl,?_⟩;rw[ZP];by_cases hc:l_ r=sg
  ·refine cx (by rw[aN hc];exact az) ?_;exact⟨_,rfl,R.ra,R.dx,_,rfl,h1,ow _ _ _ (by decide +kernel),R,r,o,rfl,rfl,rfl,hR,hl,λH' a m q t=>k1 hc H' a m q t⟩
  ·refine cu (by rw[aQ hc];rfl) ?_;refine⟨_,rfl,R.ra,R.dx,_,rfl,h1,ow _ _ _ (by decide +kernel),R,r,o,rfl,rfl,rfl,hR,hl,λa tk=>?_⟩;obtain⟨dx,tk⟩:=tk;refine⟨_,_,_,_,_,rfl,tk,D.T.cl,D.T.nP,PX _ _ _,_,rfl,λb=>k2 hc H b .refl⟩
inductive yG(CR CT:Addr)(vs:List V)(H:Hp)(Q:VK)(E:XK):Prop
 |mk (R:RC) (x:Sf84.Tok×Nat) (r:Toks) (o:Nat):vs=[.ref R.ra]->R.CR=CR->R.CT=CT->dw R H (x::r) o->R.l.length<=1100->((o≠40->∀(H':Hp),Moved R.ra H H'->dw R H' r (o+1)->Q .dt H'))->((o=40->∀(H':Hp) (a:Addr),Moved R.ra H H'->E (.int (x.2:Nat) 0) (some a) H'))->yG CR CT vs H Q E
theorem Q0{CE:Addr}(F:bU K "enter_bracket" "Reader.enter_bracket" eF f fd)(D:Xd P w K mg CR CT CE N fI jD)(hM:GI mg "MOST_BRACKETS" 40):aP P w K mg base (gq P w CE) 2 f fd ["self"] (yG CR CT):=by
 refine bU.JA F lW (λvs H Q E h=>?_) (λbG A outer s H vs Q E hr h=>?_)
 ·obtain⟨R,x,r,o,rfl,_⟩:=h;rfl
 ·obtain⟨R,x,r,o,rfl,rfl,rfl,hR,hl,k1,k2⟩:=h;refine⟨_,ae (a7 (aF dg (aD (pv 0) rfl) (cI hM) (aK _)) (ag (lY D.X df hr (aD (bT D.GZ D.R.cl (pv 0) hr aE) rfl))) aJ)
   (ae (gT (pv 0) ay wC) (ag (aU (bT D.Pl D.R.cl (pv 0) hr aE)))),?_⟩
  obtain⟨n,h1,h2,h3⟩:=hR.at_;refine⟨_,rfl,_,_,_,_,_,rfl,h1,D.R.cl,D.R.nB,Qp _ _ _,rfl,_,rfl,?_⟩;have ed:decide (vN o=V.int 40)=decide (o=40):=W4 (a:=o) (b:=40);rw[ed];by_cases ho:o=40
  ·refine cu (aN ho) ?_;refine⟨_,rfl,R.ra,R.dx,_,rfl,h1,ow _ _ _ (by decide +kernel),R,_,o,rfl,rfl,rfl,hR,hl,λa tk=>?_⟩;obtain⟨dx,tk⟩:=tk;exact⟨_,_,_,_,_,rfl,tk,D.T.cl,D.T.nP,PX _ _ _,_,rfl,λb=>k2 ho H b .refl⟩
  ·refine cx (by rw[aQ ho];exact az) ?_;refine⟨_,rfl,R.ra,R.CR,R.dx,_,_,rfl,h1,D.R.cl,D.R.nB,Qp _ _ _,_,_,rfl,rfl,R.dx,_,h1,(by show 3<1000;decide),?_⟩;rw[Qo,show V.int ((o:Int)+1)=vN (o+1) by show _=V.int ((o+1:Nat):Int);rw[tD];rfl];have kr:=hR.br (o':=o+1) h1 h2 h3;refine⟨_,rfl,R.ra,R.dx,_,rfl,af,ow _ _ _ (by decide +kernel),R,_,o+1,rfl,rfl,rfl,kr,hl,λH' a m q t=>?_⟩;exact k1 ho H' (jJ.trans m) (q x r rfl)
inductive tU(CR CT:Addr)(vs:List V)(H:Hp)(Q:VK)(E:XK):Prop
 |mk (R:RC) (r:Toks) (o:Nat) (sg:List Nat):vs=[.ref R.ra,dM sg]->R.CR=CR->R.CT=CT->dw R H r (o+1)->R.l.length<=1100->sg≠uY->((∀x r',r=x::r'->l_ r=sg->∀(H':Hp),Moved R.ra H H'->dw R H' r' o->Q .dt H'))->((l_ r≠sg->∀(H':Hp) (a:Addr),Moved R.ra H H'->E (.int (Sf84.here R.e r:Nat) 0) (some a) H'))->tU CR CT vs H Q E
theorem QZ{CE:Addr}(F:bU K "leave_bracket" "Reader.leave_bracket" eE f fd)(D:Xd P w K mg CR CT CE N fI jD)(only:bh (gq P w CE) P w K mg CR "take_only" 2 (zm CR CT)):aP P w K mg base (gq P w CE) 3 f fd ["self","sign"] (tU CR CT):=by
 refine bU.JA F lV (λvs H Q E h=>?_) (λbG A outer s H vs Q E hr h=>?_)
 ·obtain⟨R,r,o,sg,rfl,_⟩:=h;rfl
 ·obtain⟨R,r,o,sg,rfl,rfl,rfl,hR,hl,hs,k1,k2⟩:=h;refine⟨_,ae (aU (dj only D.R.cl (pv 0) hr df (aa (pv 1) aj)))
   (ag (gT (pv 0) ay Rm)),?_⟩
  obtain⟨n,h1,h2,h3⟩:=hR.at_;refine⟨_,rfl,R.ra,R.dx,_,rfl,h1,ow _ _ _ (by decide +kernel),_,rfl,R,r,o+1,sg,rfl,rfl,rfl,hR,hl,λhc H' a m q t=>?_,k2⟩;cases r with
  |nil=>exact absurd hc.symm hs
  |cons x r'=>
   have kr:=q x r' rfl;obtain⟨n1,i1,i2,i3⟩:=kr.at_;refine⟨_,rfl,R.ra,R.CR,R.dx,_,_,rfl,i1,D.R.cl,D.R.nB,Qp _ _ _,_,_,rfl,rfl,R.dx,_,i1,(by show 3<1000;decide),?_⟩;rw[Qo,show V.int (((o+1:Nat):Int) - 1)=vN o by rw[tD];show V.int ((o:Int)+1 - 1)=_;rw[Int.add_sub_cancel]];exact k1 x r' rfl hc _ (m.trans jJ) (kr.br i1 i2 i3)
end
end Fk
namespace Fk
open Sf84
def Ep:Tok->Prop
 | .num n=>n<W
 | .name k=>k<5
 | .sign k=>k<20
def b9(l:Toks):Prop:=∀x∈l,Ep x.1
theorem KJ{α:Type}{l:List α}{p:α->Bool}{k:Nat}(h:l.findIdx? p=some k):k<l.length:=(List.findIdx?_eq_some_iff_getElem.mp h).1
theorem NL:NAMES.length=5:=rfl
theorem DA:SIGNS.length=20:=rfl
theorem JJ{w:Bytes}{t:Tok}(h:wordTok w=some t):Ep t:=by
 unfold wordTok at h;split at h
 ·obtain⟨n,h1,h2⟩:=Option.bind_eq_some_iff.mp h;split at h2
  ·rename_i hn;cases h2;exact hn
  ·cases h2
 ·obtain⟨k,h1,h2⟩:=Option.map_eq_some_iff.mp h;cases h2;have:=KJ h1;rw[NL]at this;exact this
theorem Nf{b:Bytes}{k n:Nat}(h:signOf b=some (k,n)):k<20:=by
 unfold signOf at h;split at h
 ·rename_i j e;have:=KJ e;rw[DA]at this;split at h<;>(cases h;exact this)
 ·obtain⟨j,h1,h2⟩:=Option.map_eq_some_iff.mp h;cases h2;have:=KJ h1;rw[DA]at this;exact this
theorem qo:∀(f p:Nat) (b:Bytes) (l:Toks),tokens f p b= .ok l->b9 l
 |0,_,_,_,h=>by cases h
 |f+1,p,b,l,h=>by
  unfold tokens at h;cases b with
  |nil=>cases h;intro x hx;cases hx
  |cons c r=>
   dsimp only at h;split at h
   ·exact qo f _ _ _ h
   ·split at h
    ·split at h
     ·rename_i t ht;obtain⟨a,h1,h2⟩:=wb h;cases h2;intro x hx;rcases List.mem_cons.mp hx with rfl|hx
      ·exact JJ ht
      ·exact qo f _ _ _ h1 x hx
     ·cases h
    ·split at h
     ·rename_i k n ht;obtain⟨a,h1,h2⟩:=wb h;cases h2;intro x hx;rcases List.mem_cons.mp hx with rfl|hx
      ·exact Nf ht
      ·exact qo f _ _ _ h1 x hx
     ·cases h
theorem tL:∀(f p:Nat) (b:Bytes) (l:Toks),tokens f p b= .ok l->l.length<=b.length
 |0,_,_,_,h=>by cases h
 |f+1,p,b,l,h=>by
  unfold tokens at h;cases b with
  |nil=>cases h;exact aM _
  |cons c r=>
   dsimp only at h;split at h
   ·have:=tL f _ _ _ h;simp;omega
   ·split at h
    ·rename_i hw;split at h
     ·rename_i t ht;obtain⟨a,h1,h2⟩:=wb h;cases h2;have:=tL f _ _ _ h1;have e0:(c::r).takeWhile isWord=c::r.takeWhile isWord:=by rw[List.takeWhile_cons,ai hw]
      rw[e0]at this;simp at this ⊢;omega
     ·cases h
    ·split at h
     ·rename_i k n ht;obtain⟨a,h1,h2⟩:=wb h;cases h2;have:=tL f _ _ _ h1;have hn:1<=n:=by
       unfold signOf at ht;split at ht
       ·split at ht<;>(cases ht;omega)
       ·obtain⟨j,h1,h2⟩:=Option.map_eq_some_iff.mp ht;cases h2;omega
      rw[a_]at this;simp at this ⊢;omega
     ·cases h
theorem tG(k:Nat)(a b:Val):(bX (.op k a b)).length<=(bX a).length+(bX b).length+1:=by
 cases ea:d6 a with
 |none=>rw[(lQ (.inl ea)).2];simp;omega
 |some x=>cases eb:d6 b with
  |none=>rw[(lQ (.inr eb)).2];simp;omega
  |some y=>rw[(rE ea eb).2];simp
theorem P5(k:Nat)(a b:Val):(bA (.cmp k a b)).length<=(bX a).length+(bX b).length+1:=by
 cases ea:d6 a with
 |none=>rw[(rH (.inl ea)).2];simp;omega
 |some x=>cases eb:d6 b with
  |none=>rw[(rH (.inr eb)).2];simp;omega
  |some y=>rw[(xn ea eb).2];simp
theorem Hg(a:Test):(bA (.not_ a)).length<=(bA a).length+1:=by
 cases ea:da a with
 |none=>rw[(zd ea).2];simp
 |some x=>rw[(xm ea).2];simp
theorem Hh(a b:Test):(bA (.and_ a b)).length<=(bA a).length+(bA b).length+1:=by
 cases ea:da a with
 |none=>rw[(ze ea).2];simp;omega
 |some x=>
  by_cases h:x=0
  ·rw[h]at ea;rw[(He ea).2];omega
  ·rw[(Dv ea h).2];omega
theorem LO(a b:Test):(bA (.or_ a b)).length<=(bA a).length+(bA b).length+1:=by
 cases ea:da a with
 |none=>rw[(Du ea).2];simp;omega
 |some x=>
  by_cases h:x=0
  ·rw[h]at ea;rw[(LN ea).2];omega
  ·rw[(Hc ea h).2];omega
structure GV(n:Nat)(l:Toks)(v:Val)(r:Toks):Prop where
 len:(bX v).length+2*r.length<=n
 ok:MO v
 sub:∀x∈r,x∈l
theorem SV{n:Nat}(h:n<W):MO (.num n):=λm e=>by rw[PJ]at e;cases e;exact h
theorem tH{v:Val}(h:d6 v=none):MO v:=λm e=>by rw[h]at e;cases e
theorem t_{e k:Nat}{l r:Toks}(h:sign e k l= .ok r):r.length+1<=l.length/\∀x∈r,x∈l:=by
 refine⟨o5 h,?_⟩;unfold sign at h;split at h
 ·split at h
  ·cases h;exact λx hx=>aS _ hx
  ·cases h
 ·cases h
structure VBd(e f:Nat):Prop where
 pt:∀d l v r,b9 l->part e f d l= .ok (v,r)->GV (2*l.length) l v r
 tm:∀d l v r,b9 l->term e f d l= .ok (v,r)->GV (2*l.length) l v r
 Su:∀d u l v r,b9 l->MO u->termMore e f d u l= .ok (v,r)->GV ((bX u).length+2*l.length) l v r
 va:∀d l v r,b9 l->value e f d l= .ok (v,r)->GV (2*l.length) l v r
 Ss:∀d u l v r,b9 l->MO u->valueMore e f d u l= .ok (v,r)->GV ((bX u).length+2*l.length) l v r
theorem XI(e:Nat):∀f,VBd e f
 |0=>by
  refine⟨?_,?_,?_,?_,?_⟩<;>intros<;>rename_i h<;>simp only [part,term,termMore,value,valueMore]at h<;>cases h
 |f+1=>by
  have ih:=XI e f;refine⟨λd l v r ok h=>?_,λd l v r ok h=>?_,λd u l v r ok hu h=>?_,λd l v r ok h=>?_,λd u l v r ok hu h=>?_⟩
  ·unfold part at h;split at h
   ·cases h;exact⟨by rw[Dn];simp;omega,SV (ok _ bB),λx hx=>aS _ hx⟩
   ·cases h;exact⟨by rw[MX];simp;omega,tH rfl,λx hx=>aS _ hx⟩
   ·cases h;exact⟨by rw[rF,Dn];simp;omega,tH rfl,λx hx=>aS _ hx⟩
   ·split at h
    ·cases h
    ·obtain⟨x,hx,h⟩:=bF h;have g:=ih.va _ _ _ _ (λy hy=>ok y (aS _ hy)) (show value e f (d - 1) _= .ok (x.1,x.2)from hx);have gl:=g.len;split at h
     ·rename_i e1;split at h
      ·cases h
      ·obtain⟨t,ht,h⟩:=bF h;cases h;obtain⟨h2,h3⟩:=t_ ht;have gs:=g.sub;rw[e1]at gl gs;refine⟨by rw[rF];simp at gl ⊢;omega,tH rfl,λy hy=>aS _ (gs y (aS _ (aS _ (h3 y hy))))⟩
     ·cases h
     ·obtain⟨t,ht,h⟩:=bF h;cases h;obtain⟨h2,h3⟩:=t_ ht;refine⟨by rw[rF];simp at gl ⊢;omega,tH rfl,λy hy=>aS _ (g.sub y (h3 y hy))⟩
   ·split at h
    ·cases h
    ·obtain⟨x,hx,h⟩:=bF h;have g:=ih.va _ _ _ _ (λy hy=>ok y (aS _ hy)) (show value e f (d - 1) _= .ok (x.1,x.2)from hx);have gl:=g.len;obtain⟨t,ht,h⟩:=bF h;cases h;obtain⟨h2,h3⟩:=t_ ht;refine⟨by simp at gl ⊢;omega,g.ok,λy hy=>aS _ (g.sub y (h3 y hy))⟩
   ·cases h
  ·unfold term at h;obtain⟨x,hx,h⟩:=bF h;have g:=ih.pt _ _ _ _ ok (show part e f d _= .ok (x.1,x.2)from hx);have g2:=ih.Su _ _ _ _ _ (λy hy=>ok y (g.sub y hy)) g.ok h;exact⟨a8 g2.len g.len,g2.ok,λy hy=>g.sub y (g2.sub y hy)⟩
  ·unfold termMore at h;split at h
   ·split at h
    ·obtain⟨x,hx,h⟩:=bF h;have g:=ih.pt _ _ _ _ (λy hy=>ok y (aS _ hy)) (show part e f d _= .ok (x.1,x.2)from hx);have g2:=ih.Su _ _ _ _ _ (λy hy=>ok y (aS _ (g.sub y hy))) (EA hu g.ok) h;have l1:=g.len;have l2:=g2.len;have l3:=tG (‹Nat› - 7) u x.1;refine⟨?_,g2.ok,λy hy=>aS _ (g.sub y (g2.sub y hy))⟩;have l4:∀k,(bX (.op k u x.1)).length<=(bX u).length+(bX x.1).length+1:=λk=>tG k u x.1
     refine a8 l2 ?_;refine a8 (Nat.add_le_add_right (l4 _) _) ?_;simp;omega
    ·cases h;exact⟨aM _,hu,λy hy=>hy⟩
   ·cases h;exact⟨aM _,hu,λy hy=>hy⟩
  ·unfold value at h;obtain⟨x,hx,h⟩:=bF h;have g:=ih.tm _ _ _ _ ok (show term e f d _= .ok (x.1,x.2)from hx);have g2:=ih.Ss _ _ _ _ _ (λy hy=>ok y (g.sub y hy)) g.ok h;exact⟨a8 g2.len g.len,g2.ok,λy hy=>g.sub y (g2.sub y hy)⟩
  ·unfold valueMore at h;split at h
   ·split at h
    ·obtain⟨x,hx,h⟩:=bF h;have g:=ih.tm _ _ _ _ (λy hy=>ok y (aS _ hy)) (show term e f d _= .ok (x.1,x.2)from hx);have g2:=ih.Ss _ _ _ _ _ (λy hy=>ok y (aS _ (g.sub y hy))) (EA hu g.ok) h;have l1:=g.len;have l2:=g2.len;refine⟨?_,g2.ok,λy hy=>aS _ (g.sub y (g2.sub y hy))⟩;have l4:∀k,(bX (.op k u x.1)).length<=(bX u).length+(bX x.1).length+1:=λk=>tG k u x.1
     refine a8 l2 ?_;refine a8 (Nat.add_le_add_right (l4 _) _) ?_;simp;omega
    ·cases h;exact⟨aM _,hu,λy hy=>hy⟩
   ·cases h;exact⟨aM _,hu,λy hy=>hy⟩
theorem HL{e d:Nat}{l r:Toks}{v:Val}(ok:b9 l)(h:eC e d l= .ok (v,r)):GV (2*l.length) l v r:=(XI e _).pt _ _ _ _ ok h
theorem HK{e d:Nat}{l r:Toks}{v:Val}(ok:b9 l)(h:pG e d l= .ok (v,r)):GV (2*l.length) l v r:=(XI e _).tm _ _ _ _ ok h
theorem vU{e d:Nat}{l r:Toks}{v:Val}(ok:b9 l)(h:eh e d l= .ok (v,r)):GV (2*l.length) l v r:=(XI e _).va _ _ _ _ ok h
structure GT(n:Nat)(l:Toks)(v:Test)(r:Toks):Prop where
 len:(bA v).length+2*r.length<=n
 sub:∀x∈r,x∈l
structure TBd(e f:Nat):Prop where
 on:∀d l v r,b9 l->one e f d l= .ok (v,r)->GT (2*l.length) l v r
 bo:∀d l v r,b9 l->both e f d l= .ok (v,r)->GT (2*l.length) l v r
 SR:∀d u l v r,b9 l->bothMore e f d u l= .ok (v,r)->GT ((bA u).length+2*l.length) l v r
 ei:∀d l v r,b9 l->either e f d l= .ok (v,r)->GT (2*l.length) l v r
 SO:∀d u l v r,b9 l->eitherMore e f d u l= .ok (v,r)->GT ((bA u).length+2*l.length) l v r
theorem Z_(e:Nat):∀f,TBd e f
 |0=>by
  refine⟨?_,?_,?_,?_,?_⟩<;>intros<;>rename_i h<;>simp only [one,both,bothMore,either,eitherMore]at h<;>cases h
 |f+1=>by
  have ih:=Z_ e f;have V:=XI e f;refine⟨λd l v r ok h=>?_,λd l v r ok h=>?_,λd u l v r ok h=>?_,λd l v r ok h=>?_,λd u l v r ok h=>?_⟩
  ·unfold one at h;split at h
   ·obtain⟨x,hx,h⟩:=bF h;cases h;have g:=ih.on _ _ _ _ (λy hy=>ok y (aS _ hy)) (show one e f d _= .ok (x.1,x.2)from hx);have l1:=g.len;have l2:=Hg x.1;exact⟨by simp;omega,λy hy=>aS _ (g.sub y hy)⟩
   ·split at h
    ·cases h
    ·obtain⟨x,hx,h⟩:=bF h;have g:=ih.ei _ _ _ _ (λy hy=>ok y (aS _ hy)) (show either e f (d - 1) _= .ok (x.1,x.2)from hx);have gl:=g.len;obtain⟨t,ht,h⟩:=bF h;cases h;obtain⟨h2,h3⟩:=t_ ht;exact⟨by simp;omega,λy hy=>aS _ (g.sub y (h3 y hy))⟩
   ·obtain⟨x,hx,h⟩:=bF h;have g:=V.va _ _ _ _ ok (show value e f d _= .ok (x.1,x.2)from hx);have gl:=g.len;split at h
    ·rename_i k p q e1;split at h
     ·obtain⟨y,hy,h⟩:=wb h;cases h;have gs:=g.sub;rw[e1]at gl gs;have g2:=V.va _ _ _ _ (λz hz=>ok z (gs z (aS _ hz))) (show value e f d _= .ok (y.1,y.2)from hy);have l2:=g2.len;have l3:=P5 (k - 14) x.1 y.1;refine⟨?_,λz hz=>gs z (aS _ (g2.sub z hz))⟩;simp at gl;omega
     ·cases h
    ·cases h
  ·unfold both at h;obtain⟨x,hx,h⟩:=bF h;have g:=ih.on _ _ _ _ ok (show one e f d _= .ok (x.1,x.2)from hx);have g2:=ih.SR _ _ _ _ _ (λy hy=>ok y (g.sub y hy)) h;exact⟨a8 g2.len g.len,λy hy=>g.sub y (g2.sub y hy)⟩
  ·unfold bothMore at h;split at h
   ·obtain⟨x,hx,h⟩:=bF h;have g:=ih.on _ _ _ _ (λy hy=>ok y (aS _ hy)) (show one e f d _= .ok (x.1,x.2)from hx);have g2:=ih.SR _ _ _ _ _ (λy hy=>ok y (aS _ (g.sub y hy))) h;have l1:=g.len;have l2:=g2.len;have l3:=Hh u x.1;exact⟨by simp;omega,λy hy=>aS _ (g.sub y (g2.sub y hy))⟩
   ·cases h;exact⟨aM _,λy hy=>hy⟩
  ·unfold either at h;obtain⟨x,hx,h⟩:=bF h;have g:=ih.bo _ _ _ _ ok (show both e f d _= .ok (x.1,x.2)from hx);have g2:=ih.SO _ _ _ _ _ (λy hy=>ok y (g.sub y hy)) h;exact⟨a8 g2.len g.len,λy hy=>g.sub y (g2.sub y hy)⟩
  ·unfold eitherMore at h;split at h
   ·obtain⟨x,hx,h⟩:=bF h;have g:=ih.bo _ _ _ _ (λy hy=>ok y (aS _ hy)) (show both e f d _= .ok (x.1,x.2)from hx);have g2:=ih.SO _ _ _ _ _ (λy hy=>ok y (aS _ (g.sub y hy))) h;have l1:=g.len;have l2:=g2.len;have l3:=LO u x.1;exact⟨by simp;omega,λy hy=>aS _ (g.sub y (g2.sub y hy))⟩
   ·cases h;exact⟨aM _,λy hy=>hy⟩
theorem Fg{e d:Nat}{l r:Toks}{v:Test}(ok:b9 l)(h:jo e d l= .ok (v,r)):GT (2*l.length) l v r:=(Z_ e _).on _ _ _ _ ok h
theorem HQ{e d:Nat}{l r:Toks}{v:Test}(ok:b9 l)(h:pH e d l= .ok (v,r)):GT (2*l.length) l v r:=(Z_ e _).bo _ _ _ _ ok h
theorem z_{e d:Nat}{l r:Toks}{v:Test}(ok:b9 l)(h:eW e d l= .ok (v,r)):GT (2*l.length) l v r:=(Z_ e _).ei _ _ _ _ ok h
end Fk
namespace Fk
open PySem PySem.Spec PyProof.Rows L2
open PySem.W (Codec Frag nsIn keepIn mg_of fnOf findIn)
open Sf84 (Bytes Toks nums trimmed reckoned weight stepped)
variable {P:Program} {w:World} {K:PySem.W.Frag} {mg:Str->Option Value} {base:Heap} {fd:FuncData} {f:Addr} {C:Addr} {H:Hp} {H':Hp} {a:Addr} {x:Str} {s:Shared} {Q:VK} {CF:Addr} {xs:List V} {r:Sf84.Toks} {n:Nat} {k:Nat} {i:Nat} {h:Heap} {E:XK} {as:List Addr} {rs:List Addr} {bD:List (Key×V)} {st:Stmt} {ps:List Str} {sp:Sp} {CX:JI} {c:Sf84.Code} {A:Around} {v:V} {dx:Addr} {CR:Addr} {CT:Addr} {l:Addr} {p:Nat} {o:Nat} {e:Nat} {d:Nat}
def NG:List Nat:=[110,117,109,98,101,114]
def tab:List (List Nat):=((List.range 20).map dW++(List.range 5).map pI)++[NG,uY]
theorem Vn:tab.Nodup:=by decide +kernel
theorem SX:tab.length=27:=rfl
def PU:Sf84.Tok->Nat
 | .num _=>25
 | .name k=>20+k
 | .sign k=>k
theorem qB(h:k<20):tab[k]? =some (dW k):=by
 unfold tab;rw[gY (by simp;omega),gY (by simp;omega),bO,List.getElem?_range h];rfl
theorem Mg(h:k<5):tab[20+k]? =some (pI k):=by
 unfold tab;rw[gY (by simp;omega),jy (by simp),bO];simp[h]
theorem Vj(h:Ep t):tab[PU t]? =some (JP t):=by
 cases t with
 |num n=>rfl
 |name k=>exact Mg h
 |sign k=>exact qB h
theorem LM{c:List Nat}(h1:tab[i]? =some c)(h2:tab[j]? =some c):i=j:=by
 have hi:=(List.getElem?_eq_some_iff.mp h1).1;exact(List.getElem?_inj hi Vn).mp (h1.trans h2.symm)
theorem M4(ok:Ep t)(hk:k<20)(h:PU t=k):t= .sign k:=by
 cases t with
 |num n=>change 25=k at h;omega
 |name j=>change 20+j=k at h;omega
 |sign j=>change j=k at h;rw[h]
theorem M5(ok:Ep t)(hk:k<5)(h:PU t=20+k):t= .name k:=by
 cases t with
 |num n=>change 25=20+k at h;omega
 |name j=>change 20+j=20+k at h;rw[show j=k by omega]
 |sign j=>change j=20+k at h;have:j<20:=ok;omega
theorem PR(ok:Ep t)(h:PU t=25):∃n,t= .num n:=by
 cases t with
 |num n=>exact⟨n,rfl⟩
 |name j=>change 20+j=25 at h;have:j<5:=ok;omega
 |sign j=>change j=25 at h;have:j<20:=ok;omega
def yq:Toks->Nat
 |x::_=>PU x.1
 |[]=>26
theorem Lo(ok:b9 r):tab[yq r]? =some (l_ r):=by
 cases r with
 |nil=>rfl
 |cons x q=>exact Vj (ok x bB)
theorem yP(ok:b9 r){c:List Nat}(h:tab[j]? =some c):l_ r=c↔yq r=j:=by
 constructor
 ·intro e;have:=Lo ok;rw[e]at this;exact LM this h
 ·intro e;have:=Lo ok;rw[e,h]at this;exact(aO this).symm
theorem bS(ok:b9 r){k:Nat}(hk:k<20):l_ r=dW k↔∃p q,r=(.sign k,p)::q:=by
 rw[yP ok (qB hk)];constructor
 ·intro e;cases r with
  |nil=>change 26=k at e;omega
  |cons x q=>
   have:=M4 (ok x bB) hk e;obtain⟨t,p⟩:=x;change t=_ at this;subst this;exact⟨p,q,rfl⟩
 ·rintro⟨p,q,rfl⟩
  rfl
theorem cU(ok:b9 r){k:Nat}(hk:k<5):l_ r=pI k↔∃p q,r=(.name k,p)::q:=by
 rw[yP ok (Mg hk)];constructor
 ·intro e;cases r with
  |nil=>change 26=20+k at e;omega
  |cons x q=>
   have:=M5 (ok x bB) hk e;obtain⟨t,p⟩:=x;change t=_ at this;subst this;exact⟨p,q,rfl⟩
 ·rintro⟨p,q,rfl⟩
  rfl
theorem kP(ok:b9 r):l_ r=NG↔∃n p q,r=(.num n,p)::q:=by
 rw[yP ok (show tab[25]? =some NG from rfl)];constructor
 ·intro e;cases r with
  |nil=>change 26=25 at e;omega
  |cons x q=>
   obtain⟨n,h⟩:=PR (ok x bB) e;obtain⟨t,p⟩:=x;change t=_ at h;subst h;exact⟨n,p,q,rfl⟩
 ·rintro⟨n,p,q,rfl⟩
  rfl
theorem xQ(ok:b9 r):l_ r=uY↔r=[]:=by
 rw[yP ok (show tab[26]? =some uY from rfl)];constructor
 ·intro e;cases r with
  |nil=>rfl
  |cons x q=>
   have h:=ok x bB;obtain⟨t,p⟩:=x;cases t with
   |num n=>change 25=26 at e;omega
   |name j=>change 20+j=26 at e;have:j<5:=h;omega
   |sign j=>change j=26 at e;have:j<20:=h;omega
 ·rintro rfl
  rfl
theorem dw.ok{H:Hp}{r:Toks}{o:Nat}(h:dw R H r o)(ok:b9 R.l):b9 r:=by
 obtain⟨n,_,h2,_⟩:=h.at_;intro x hx;rw[<-h2]at hx;exact ok x (List.mem_of_mem_drop hx)
theorem dw.le(h:dw R H r o):r.length<=R.l.length:=by
 obtain⟨n,_,h2,_⟩:=h.at_;rw[<-h2,a_];omega
theorem CQ{a:List Nat}(h:z=dS b):decide (dM a=V.str z)=decide (a=b):=by
 rw[h];exact ZP
structure FC(P:Program)(w:World)(K:Frag)(mg:Str->Option Value)(CR CT CP CE N fI:Addr)(jD:FuncData):Prop where
 D:Xd P w K mg CR CT CE N fI jD
 only:bh (gq P w CE) P w K mg CR "take_only" 2 (zm CR CT)
 ent:bh (gq P w CE) P w K mg CR "enter_bracket" 2 (yG CR CT)
 lea:bh (gq P w CE) P w K mg CR "leave_bracket" 3 (tU CR CT)
 num:GS mg "NUMBER" (dS NG)
section
variable {CR CT CP CE N fI:Addr} {jD:FuncData}
theorem DW{R:RC}{σ:L2.St}(hm:m ∉ J3)(hσ:σ[i]? =some (some (.ref R.ra)))(hR:dw R H r o)(q:sp [.ref R.ra] H Q E):oX R.CR m sp [] E (dJ i) gj σ H Q:=by
 obtain⟨n,h1,_⟩:=hR.at_;exact⟨_,hσ,R.ra,R.dx,_,rfl,h1,ow _ _ _ hm,q⟩
theorem ve{R:RC}{σ:L2.St}(D:Xd P w K mg R.CR R.CT CE N fI jD)(hl:R.l.length<=1100)(hσ:σ[i]? =some (some (.ref R.ra)))(hR:dw R H r o)(q:Q (dM (l_ r)) H):zh K (oX R.CR "coming" (i6 R.CR R.CT) [] E (dJ i) gj) "sign" σ H Q:=by
 refine DW (by decide +kernel) hσ hR ⟨R,r,o,rfl,rfl,rfl,hR,hl,λa tk=>?_⟩;obtain⟨dx,tk⟩:=tk;exact⟨_,_,_,_,_,rfl,tk,D.T.cl,D.T.nS,Hb _ _ _,q⟩
theorem R0{R:RC}{σ:L2.St}(D:Xd P w K mg R.CR R.CT CE N fI jD)(hl:R.l.length<=1100)(hσ:σ[i]? =some (some (.ref R.ra)))(hR:dw R H r o)(q:Q (vN (Sf84.here R.e r)) H):zh K (oX R.CR "coming" (i6 R.CR R.CT) [] E (dJ i) gj) "place" σ H Q:=by
 refine DW (by decide +kernel) hσ hR ⟨R,r,o,rfl,rfl,rfl,hR,hl,λa tk=>?_⟩;obtain⟨dx,tk⟩:=tk;exact⟨_,_,_,_,_,rfl,tk,D.T.cl,D.T.nP,PX _ _ _,q⟩
theorem iQ{R:RC}{x:Sf84.Tok×Nat}{σ:L2.St}(hl:R.l.length<=1100)(hσ:σ[i]? =some (some (.ref R.ra)))(hR:dw R H (x::r) o)(q:∀H' a,Moved R.ra H H'->dw R H' r o->oO R.CT H' a (JP x.1) x.2 (M3 x.1)->Q (.ref a) H'):oX R.CR "take" (zk R.CR R.CT) [] E (dJ i) gj σ H Q:=
 DW (by decide +kernel) hσ hR ⟨R,_,o,rfl,rfl,rfl,hR,hl,λH' a m s t=>q H' a m (s x r rfl) t⟩
inductive EK(CR CT:Addr)(vs:List V)(H:Hp)(Q:VK)(E:XK):Prop
 |mk (R:RC) (r:Toks) (o:Nat):vs=[.ref R.ra]->R.CR=CR->R.CT=CT->dw R H r o->R.l.length<=1100->b9 R.l->((∀n q t,r=(.num n,q)::t->¬(n=0\/8<n)->∀H':Hp,Moved R.ra H H'->dw R H' t o->Q (vN n) H'))->((∀n q t,r=(.num n,q)::t->(n=0\/8<n)->∀(H':Hp) (a:Addr),Moved R.ra H H'->E (.int q 0) (some a) H'))->(((¬∃n q t,r=(.num n,q)::t)->∀(H':Hp) (a:Addr),Moved R.ra H H'->E (.int (Sf84.here R.e r:Nat) 0) (some a) H'))->EK CR CT vs H Q E
theorem Ft(F:bU K "read_size" "read_size" kM f fd)(C:FC P w K mg CR CT CP CE N fI jD)(hM:GI mg "MOST_BYTES_OF_VALUE" 8):aP P w K mg base (gq P w CE) 3 f fd ["reader"] (EK CR CT):=by
 refine bU.JA F ue (λvs H Q E h=>?_) (λbG A outer s H vs Q E hr h=>?_)
 ·obtain⟨R,r,o,rfl,_⟩:=h;rfl
 ·obtain⟨R,r,o,rfl,rfl,rfl,hR,hl,ok,k1,k2,k3⟩:=h;have nd:=ue.nd;refine⟨_,ae (aB (i:=1) nd rfl (Or.inl rfl) (aD (bT C.D.GZ C.D.R.cl (pv 0) (hr.mono (by decide)) aE) rfl))
   (ae (aB (i:=2) nd rfl (Or.inl rfl) (aD (dj C.only C.D.R.cl (pv 0) hr df (aa (HJ C.num) aj)) rfl))
   (ae (a7 (du (ij f_ f_ ay (pv 2) (cI hM))) (ag (lY C.D.X df (hr.mono (by decide)) (pv 1))) aJ)
   (ag (aq (pv 2))))),?_⟩
  refine R0 C.D hl rfl hR ?_;obtain⟨m,h1,_⟩:=hR.at_;refine⟨_,rfl,R.ra,R.dx,_,rfl,h1,ow _ _ _ (by decide +kernel),R,r,o,NG,rfl,rfl,rfl,hR,hl,λhc H1 a mv q tk=>?_,λhc H1 a mv=>k3 (λx=>hc ((kP (hR.ok ok)).mpr x)) H1 a mv⟩;obtain⟨n,p,t,rfl⟩:=(kP (hR.ok ok)).mp hc;have kr:=q _ _ rfl;obtain⟨dx,tk⟩:=tk;refine⟨_,_,_,_,_,rfl,tk,C.D.T.cl,C.D.T.nN,UE _ _ _,?_⟩;by_cases h0:n=0
  ·refine⟨_,rfl,_,_,rfl,rfl,_,rfl,cx (by subst h0;show ¬decide ((1:Int)<=((0:Nat):Int))=true;decide) ⟨_,rfl,cu rfl ?_⟩⟩;exact⟨_,rfl,_,rfl,λb=>k2 n p t rfl (.inl h0) H1 b mv⟩
  ·refine⟨_,rfl,_,_,rfl,rfl,_,rfl,cu (by show decide ((1:Int)<=(n:Int))=true;exact aN (by omega)) ⟨_,_,rfl,rfl,_,rfl,?_⟩⟩;by_cases h8:8<n
   ·refine cu (by show(!decide ((n:Int)<=8))=true;rw[aQ (by omega)];rfl) ?_;exact⟨_,rfl,_,rfl,λb=>k2 n p t rfl (.inr h8) H1 b mv⟩
   ·refine cx (by show ¬(!decide ((n:Int)<=8))=true;rw[aN (by omega)];exact az) ?_;exact⟨_,rfl,k1 n p t rfl (by omega) H1 mv kr⟩
def Q4(CP:Addr)(R:RC)(res:Except Nat (Sf84.Val×Toks))(o:Nat)(H:Hp)(Q:VK)(E:XK):Prop:=
 (∀v r',res= .ok (v,r')->∀(H':Hp) (a dx l:Addr) (rs:List Addr),Moved R.ra H H'->dw R H' r' o->bI CP H' a (d6 v) (bX v) dx l rs->Q (.ref a) H')/\
 (∀p,res= .error p->∀(H':Hp) (a:Addr),Moved R.ra H H'->E (.int (p:Nat) 0) (some a) H')
inductive Pn(CR CT CP:Addr)(g:Nat->Nat->Toks->Except Nat (Sf84.Val×Toks))(d:Nat)(vs:List V)(H:Hp)(Q:VK)(E:XK):Prop
 |mk (R:RC) (r:Toks) (o:Nat):vs=[.ref R.ra]->R.CR=CR->R.CT=CT->dw R H r o->o+d=40->R.l.length<=1100->b9 R.l->Q4 CP R (g R.e d r) o H Q E->Pn CR CT CP g d vs H Q E
inductive JS(CR CT CP:Addr)(k d:Nat)(vs:List V)(H:Hp)(Q:VK)(E:XK):Prop
 |mk (R:RC) (p:Nat) (q:Toks) (o:Nat):vs=[.ref R.ra]->R.CR=CR->R.CT=CT->dw R H ((.sign k,p)::q) o->o+d=40->R.l.length<=1100->b9 R.l->Q4 CP R (eC R.e d ((.sign k,p)::q)) o H Q E->JS CR CT CP k d vs H Q E
theorem bI.moved{o:Option Nat}{d:V}(h:bI C H a o c dy l rs)(e:H ra=some (.ins CR dx (BU (.ref ta) d b)))(m:Moved ra H H'):bI C H' a o c dy l rs:=by
 have n1:a≠ra:=by
  rintro rfl
  have h1:=h.ob;rw[e]at h1;have:=(HO.ins.inj (aO h1)).2.2;exact absurd (congrArg List.length this) (by show ¬(3=2);decide)
 have n2:l≠ra:=by
  rintro rfl
  have h1:=h.co.lst;rw[e]at h1;cases h1
 refine⟨m _ _ h.ob n1,⟨m _ _ h.co.lst n2,h.co.len,λi r z h1 h2=>m _ _ (h.co.at_ i r z h1 h2) ?_⟩⟩
 rintro rfl
 have h3:=h.co.at_ i _ z h1 h2;unfold mi at h3;rw[e]at h3;cases h3
theorem bI.mv{o:Option Nat}(h:bI C H a o c dy l rs)(e:dw R H r b)(m:Moved R.ra H H'):bI C H' a o c dy l rs:=by
 obtain⟨n,e1,_⟩:=e.at_;exact h.moved e1 m
def VA:Sp:=λ_ _ _ _=>False
def Qw(CR CT CP:Addr):Nat->Sp
 |0=>VA
 |d+1=>Pn CR CT CP eh d
theorem abE:(")":Str)=dS (dW 1):=by decide +kernel
theorem abC:("]":Str)=dS (dW 3):=by decide +kernel
theorem abA:("}":Str)=dS (dW 5):=by decide +kernel
theorem abz:(":":Str)=dS (dW 6):=by decide +kernel
theorem E1:Sf84.sign e k ((.sign k,p)::q)= .ok q:=by
 show(if k=k then Except.ok q else Except.error p)=Except.ok q;rw[ai rfl]
theorem E2(h:¬∃p q,r=(.sign k,p)::q):Sf84.sign e k r= .error (Sf84.here e r):=by
 unfold Sf84.sign;split
 ·rename_i j p q;by_cases e:j=k
  ·subst e;exact absurd ⟨p,q,rfl⟩ h
  ·rw[ah e];rfl
 ·rfl
theorem rM(hk:k<20):dW k≠uY:=λh=>by
 have h1:=qB hk;rw[h]at h1;have:=LM h1 (show tab[26]? =some uY from rfl);omega
theorem Af(F:bU K "read_braces" "read_braces" iS f fd)(C:FC P w K mg CR CT CP CE N fI jD)(hk:3<=k)(mV:mg "read_value"=some (.ref fV))(cV:Calls (gq P w CE) P w K mg fV k (Qw CR CT CP d)):
  aP P w K mg base (gq P w CE) (k+1) f fd ["reader"] (JS CR CT CP 4 d):=by
 refine bU.JA F o8 (λvs H Q E h=>?_) (λbG A outer s H vs Q E hr h=>?_)
 ·obtain⟨R,p,q,o,rfl,_⟩:=h;rfl
 ·obtain⟨R,p,q,o,rfl,rfl,rfl,hR,ho,hl,ok,k1,k2⟩:=h;have nd:=o8.nd;refine⟨_,ae (aU (bT C.ent C.D.R.cl (pv 0) (hr.mono (by omega)) df))
   (ae (aB (i:=1) nd rfl (Or.inl rfl) (aR cV mV hr df (aa (pv 0) aj)))
   (ae (aU (dj C.lea C.D.R.cl (pv 0) (hr.mono hk) df (aa fj aj)))
   (ag (aq (pv 1))))),?_⟩
  refine DW (by decide +kernel) rfl hR ⟨R,_,q,o,rfl,rfl,rfl,hR,hl,λhn H1 m1 kr=>?_,λhn H1 a m1=>?_⟩
  ·cases d with
   |zero=>omega
   |succ d=>
    rw[HN]at k1 k2;refine⟨_,rfl,R,q,o+1,rfl,rfl,rfl,kr,by omega,hl,ok,λv r' ev H2 a dx l rs m2 j_ pa=>?_,λz ez H2 a m2=>?_⟩
    ·rw[ev]at k1 k2;obtain⟨n2,i2,_⟩:=j_.at_;refine⟨_,rfl,R.ra,R.dx,_,rfl,i2,ow _ _ _ (by decide +kernel),R,r',o,dW 5,?_,rfl,rfl,j_,hl,rM (by decide),λx r2 e2 hc H3 m3 l7=>?_,λhc H3 b m3=>?_⟩
     ·show [V.ref R.ra,V.str "}"]=_;rw[abA];rfl
     ·obtain⟨p2,q2,e3⟩:=(bS (j_.ok ok) (by decide)).mp hc;subst e3;obtain⟨_,rfl⟩:=List.cons.inj e2;refine⟨_,rfl,k1 v q2 ?_ H3 a dx l rs (m1.trans (m2.trans m3)) l7 (pa.mv j_ m3)⟩;show(do let t<-Sf84.sign R.e 5 ((.sign 5,p2)::q2);return (v,t):Except Nat (Sf84.Val×Toks))=_;rw[E1];rfl
     ·refine k2 _ ?_ H3 b (m1.trans (m2.trans m3));show(do let t<-Sf84.sign R.e 5 r';return (v,t):Except Nat (Sf84.Val×Toks))=_;rw[E2 (λx=>hc ((bS (j_.ok ok) (by decide)).mpr x))];rfl
    ·exact k2 z (by rw[ez];rfl) H2 a (m1.trans m2)
  ·have hd:d=0:=by omega
   subst hd;exact k2 p (Ff _ _ _) H1 a m1
end
theorem Na{v:Sf84.Val}(h:¬(n=0\/8<n)):t9 e v ((.sign 6,p)::(.num n,q)::t)=(do let t<-Sf84.sign e 3 t;return (.load n v,t)):=by
 show(if n=0\/8<n then Except.error q else do let t<-Sf84.sign e 3 t;return (Sf84.Val.load n v,t))=_;rw[ah h]
theorem Nb{v:Sf84.Val}(h:n=0\/8<n):t9 e v ((.sign 6,p)::(.num n,q)::t)= .error q:=by
 show(if n=0\/8<n then Except.error q else do let t<-Sf84.sign e 3 t;return (Sf84.Val.load n v,t))=_;rw[ai h]
theorem Qc{v:Sf84.Val}(h:¬∃n q r,t=(.num n,q)::r):t9 e v ((.sign 6,p)::t)= .error (Sf84.here e t):=by
 unfold t9;split
 ·rename_i n q r e1;exact absurd ⟨n,q,r,(List.cons.inj e1).2⟩ h
 ·rename_i e1;rw[(List.cons.inj e1).2]
 ·rename_i h1 h2;exact absurd rfl (h2 p t)
theorem Hs{v:Sf84.Val}(h:¬∃p q,r=(.sign 6,p)::q):t9 e v r=(do let t<-Sf84.sign e 3 r;return (.load 1 v,t)):=by
 unfold t9;split
 ·exact absurd ⟨_,_,rfl⟩ h
 ·exact absurd ⟨_,_,rfl⟩ h
 ·rfl
section
variable {CR CT CP CE N fI:Addr} {jD:FuncData}
theorem Bj{v:Sf84.Val}{D:Ends}(hQ:D.rt=Q)(hR:dw R H r (o+1))(hl:R.l.length<=1100)(ok:b9 R.l)(pa:bI CP H a (d6 v) (bX v) dx l rs)(lv:(bX v).length<=Bz)
  (k:Q4 CP R (do let t<-Sf84.sign R.e 3 r;return (.load n v,t)) o H Q E):
  P0 (P4 (oX R.CR "leave_bracket" (tU R.CR R.CT) [] E (dJ 0) (d5 (tC (.str "]")) gj))) (vy (zi (mx CP) [] E0 (d5 (dJ 1) (d5 (dJ 2) gj)))) D [some (.ref R.ra),some (.ref a),some (vN n)] H:=by
 obtain⟨n2,i2,_⟩:=hR.at_;refine⟨_,rfl,R.ra,R.dx,_,rfl,i2,ow _ _ _ (by decide +kernel),R,r,o,dW 3,?_,rfl,rfl,hR,hl,rM (by decide),λx r2 e2 hc H3 m3 l7=>?_,λhc H3 b m3=>?_⟩
 ·show [V.ref R.ra,V.str "]"]=_;rw[abC];rfl
 ·obtain⟨p2,q2,e3⟩:=(bS (hR.ok ok) (by decide)).mp hc;subst e3;obtain⟨_,rfl⟩:=List.cons.inj e2;rw[E1]at k;refine⟨_,rfl,_,rfl,a,dx,l,rs,_,_,n,rfl,pa.mv hR m3,lv,λH4 a4 RR l4 Qk s4 Md=>?_⟩;rw[hQ];exact k.1 (.load n v) q2 rfl H4 a4 RR l4 Qk (m3.trans (.of s4)) (l7.same s4) Md
 ·rw[E2 (λx=>hc ((bS (hR.ok ok) (by decide)).mpr x))]at k;exact k.2 _ rfl H3 b m3
theorem Q4.move(k:Q4 CP R res o H Q E)(m:Moved R.ra H H1):Q4 CP R res o H1 Q E:=
 ⟨λv r' e H' a dx l rs m1 hr pa=>k.1 v r' e H' a dx l rs (m.trans m1) hr pa,λp e H' a m1=>k.2 p e H' a (m.trans m1)⟩
theorem B_(F:bU K "read_bytes" "read_bytes" jC f fd)(C:FC P w K mg CR CT CP CE N fI jD)(hk:3<=k)(mV:mg "read_value"=some (.ref fV))(cV:Calls (gq P w CE) P w K mg fV k (Qw CR CT CP d))
  (mS:mg "read_size"=some (.ref fS)) (cS:Calls (gq P w CE) P w K mg fS 3 (EK CR CT)) (mB:mg "bytes_piece"=some (.ref fB)) (cB:Calls aV P w K mg fB 3 (mx CP)):
  aP P w K mg base (gq P w CE) (k+1) f fd ["reader"] (JS CR CT CP 2 d):=by
 refine bU.JA F rj (λvs H Q E h=>?_) (λbG A outer s H vs Q E hr h=>?_)
 ·obtain⟨R,p,q,o,rfl,_⟩:=h;rfl
 ·obtain⟨R,p,q,o,rfl,rfl,rfl,hR,ho,hl,ok,k⟩:=h;have nd:=rj.nd;refine⟨_,ae (aU (bT C.ent C.D.R.cl (pv 0) (hr.mono (by omega)) df))
   (ae (aB (i:=1) nd rfl (Or.inl rfl) (aR cV mV hr df (aa (pv 0) aj)))
   (ae (aB (i:=2) nd rfl (Or.inl rfl) ay)
   (ae (a7 (aF dg (aD (bT C.D.GZ C.D.R.cl (pv 0) (hr.mono (by omega)) aE) rfl) fj (aK _))
    (ae (aU (bT C.D.Pl C.D.R.cl (pv 0) (hr.mono (by omega)) aE))
    (ag (aB (i:=2) nd rfl (Or.inl rfl) (aR cS mS (hr.mono hk) df (aa (pv 0) aj))))) aJ)
   (ae (aU (dj C.lea C.D.R.cl (pv 0) (hr.mono hk) df (aa fj aj)))
   (ag (aq (aR cB mB (hr.mono hk) aE (aa (pv 1) (aa (pv 2) aj))))))))),?_⟩
  refine DW (by decide +kernel) rfl hR ⟨R,_,q,o,rfl,rfl,rfl,hR,hl,λhn H1 m1 kr=>?_,λhn H1 a m1=>?_⟩
  ·cases d with
   |zero=>omega
   |succ d=>
    rw[HM]at k;refine⟨_,rfl,R,q,o+1,rfl,rfl,rfl,kr,by omega,hl,ok,λv r' ev H2 a dx l rs m2 j_ pa=>?_,λz ez H2 a m2=>?_⟩
    ·rw[ev]at k;have k':Q4 CP R (t9 R.e v r') o H2 Q E:=k.move (m1.trans m2);have gv:=vU (kr.ok ok) ev;have lv:(bX v).length<=Bz:=by
      have h1:=gv.len;have h2:=kr.le;show _<=100000;omega
     refine ve C.D hl rfl j_ ⟨rfl,_,rfl,?_⟩;rw[CQ abz];by_cases hc:∃p6 t,r'=(.sign 6,p6)::t
     ·refine cu (aN ((bS (j_.ok ok) (by decide)).mpr hc)) ?_;obtain⟨p6,t,rfl⟩:=hc;refine iQ hl rfl j_ λH3 b3 m3 l7 tk3=>?_
      refine⟨_,rfl,R,t,o+1,rfl,rfl,rfl,l7,hl,ok,λn q3 t3 e3 hn H4 m4 IH=>?_,λn q3 t3 e3 hn H4 b m4=>?_,λhn H4 b m4=>?_⟩
      ·subst e3;rw[Na hn]at k';exact Bj rfl IH hl ok ((pa.mv j_ m3).mv l7 m4) lv (k'.move (m3.trans m4))
      ·subst e3;rw[Nb hn]at k';exact k'.2 _ rfl H4 b (m3.trans m4)
      ·rw[Qc hn]at k';exact k'.2 _ rfl H4 b (m3.trans m4)
     ·refine cx (by rw[aQ (λx=>hc ((bS (j_.ok ok) (by decide)).mp x))];exact az) ?_;rw[Hs hc]at k';exact Bj (n:=1) rfl j_ hl ok pa lv k'
    ·exact k.2 z (by rw[ez];rfl) H2 a (m1.trans m2)
  ·have hd:d=0:=by omega
   subst hd;exact k.2 p (Fe _ _ _) H1 a m1
end
theorem abD:("[":Str)=dS (dW 2):=by decide +kernel
theorem abB:("{":Str)=dS (dW 4):=by decide +kernel
theorem Wa:("len":Str)=dS (pI 0):=by decide +kernel
theorem litKind:("kind":Str)=dS (pI 1):=by decide +kernel
theorem N4(h2:¬∃p q,r=(.sign 2,p)::q)(h4:¬∃p q,r=(.sign 4,p)::q)(hn:¬∃n p q,r=(.num n,p)::q)(h0:¬∃p q,r=(.name 0,p)::q)(h1:¬∃p q,r=(.name 1,p)::q):KI r=false:=by
 cases r with
 |nil=>rfl
 |cons x q=>
  obtain⟨t,p⟩:=x;cases t with
  |num n=>exact absurd ⟨n,p,q,rfl⟩ hn
  |name k=>
   refine aQ λh=>?_
   rcases(show k=0\/k=1 by omega)with rfl|rfl
   ·exact h0 ⟨p,q,rfl⟩
   ·exact h1 ⟨p,q,rfl⟩
  |sign k=>
   refine aQ λh=>?_
   rcases h with rfl|rfl
   ·exact h2 ⟨p,q,rfl⟩
   ·exact h4 ⟨p,q,rfl⟩
section
variable {CR CT CP CE N fI:Addr} {jD:FuncData}
theorem Fu(F:bU K "read_part" "read_part" kN f fd)(C:FC P w K mg CR CT CP CE N fI jD)(hk:3<=k)
  (mY:mg "read_bytes"=some (.ref fY)) (cY:Calls (gq P w CE) P w K mg fY k (JS CR CT CP 2 d)) (mZ:mg "read_braces"=some (.ref fZ)) (cZ:Calls (gq P w CE) P w K mg fZ k (JS CR CT CP 4 d))
  (mK:mg "known_piece"=some (.ref fK)) (cK:Calls aV P w K mg fK 3 (kD CP)) (mL:mg "length_piece"=some (.ref fL)) (cL:Calls aV P w K mg fL 3 (ES CP)) (mB:mg "bytes_piece"=some (.ref fB)) (cB:Calls aV P w K mg fB 3 (mx CP))
  (gP:GI mg "KIND_PLACE" 12) (gS:GI mg "KIND_SIZE" 2):
  aP P w K mg base (gq P w CE) (k+1) f fd ["reader"] (Pn CR CT CP eC d):=by
 refine bU.JA F uf (λvs H Q E h=>?_) (λbG A outer s H vs Q E hr h=>?_)
 ·obtain⟨R,r,o,rfl,_⟩:=h;rfl
 ·obtain⟨R,r,o,rfl,rfl,rfl,hR,ho,hl,ok,kk⟩:=h;have nd:=uf.nd;have jL:dR 1 _:=hr.mono (by omega);have hr3:=hr.mono hk;refine⟨_,ae (aB (i:=1) nd rfl (Or.inl rfl) (aD (bT C.D.GZ C.D.R.cl (pv 0) jL aE) rfl))
   (ae (a7 (aF dg (pv 1) fj (aK _)) (ag (aq (aR cY mY hr df (aa (pv 0) aj)))) aJ)
   (ae (a7 (aF dg (pv 1) fj (aK _)) (ag (aq (aR cZ mZ hr df (aa (pv 0) aj)))) aJ)
   (ae (a7 (aF dg (pv 1) (HJ C.num) (aK _)) (ag (aq (aR cK mK hr3 aE (aa (aD (bT C.D.Pl C.D.R.cl (pv 0) jL aE) rfl) aj)))) aJ)
   (ae (a7 (aF dg (pv 1) fj (aK _)) (ae (aU (bT C.D.Pl C.D.R.cl (pv 0) jL aE)) (ag (aq (VQ cL mL hr3 aE)))) aJ)
   (ae (a7 (aF dg (pv 1) fj (aK _)) (ae (aU (bT C.D.Pl C.D.R.cl (pv 0) jL aE)) (ag (aq (aR cB mB hr3 aE (aa (aR cK mK hr3 aE (aa (cI gP) aj)) (aa (cI gS) aj)))))) aJ)
   (ag (lY C.D.X df jL (aD (bT C.D.GZ C.D.R.cl (pv 0) jL aE) rfl)))))))),?_⟩
  refine ve C.D hl rfl hR ?_;refine⟨_,rfl,rfl,_,rfl,?_⟩;rw[CQ abD];by_cases h2:∃p q,r=(.sign 2,p)::q
  ·refine cu (aN ((bS (hR.ok ok) (by decide)).mpr h2)) ?_;obtain⟨p,q,rfl⟩:=h2;exact⟨_,rfl,R,p,q,o,rfl,rfl,rfl,hR,ho,hl,ok,kk⟩
  refine cx (by rw[aQ (λx=>h2 ((bS (hR.ok ok) (by decide)).mp x))];exact az) ?_;refine⟨_,rfl,rfl,_,rfl,?_⟩;rw[CQ abB];by_cases h4:∃p q,r=(.sign 4,p)::q
  ·refine cu (aN ((bS (hR.ok ok) (by decide)).mpr h4)) ?_;obtain⟨p,q,rfl⟩:=h4;exact⟨_,rfl,R,p,q,o,rfl,rfl,rfl,hR,ho,hl,ok,kk⟩
  refine cx (by rw[aQ (λx=>h4 ((bS (hR.ok ok) (by decide)).mp x))];exact az) ?_;refine⟨_,rfl,rfl,_,rfl,?_⟩;rw[CQ rfl];by_cases hn:∃n p q,r=(.num n,p)::q
  ·refine cu (aN ((kP (hR.ok ok)).mpr hn)) ?_;obtain⟨n,p,q,rfl⟩:=hn;rw[Nr]at kk;refine iQ hl rfl hR λH1 b m1 kr tk=>?_
   obtain⟨dx,tk⟩:=tk;refine⟨_,_,_,_,_,rfl,tk,C.D.T.cl,C.D.T.nN,UE _ _ _,n,rfl,λH2 a2 K8 l2 UI s2 QO=>?_⟩;exact kk.1 (.num n) q rfl H2 a2 K8 l2 UI (m1.trans (.of s2)) (kr.same s2) QO
  refine cx (by rw[aQ (λx=>hn ((kP (hR.ok ok)).mp x))];exact az) ?_;refine⟨_,rfl,rfl,_,rfl,?_⟩;rw[CQ Wa];by_cases h0:∃p q,r=(.name 0,p)::q
  ·refine cu (aN ((cU (hR.ok ok) (by decide)).mpr h0)) ?_;obtain⟨p,q,rfl⟩:=h0;rw[J_]at kk;refine iQ hl rfl hR λH1 b m1 kr tk=>?_
   refine⟨rfl,λH2 a2 K8 l2 UI s2 QO=>?_⟩;exact kk.1 .len q rfl H2 a2 K8 l2 UI (m1.trans (.of s2)) (kr.same s2) QO
  refine cx (by rw[aQ (λx=>h0 ((cU (hR.ok ok) (by decide)).mp x))];exact az) ?_;refine⟨_,rfl,rfl,_,rfl,?_⟩;rw[CQ litKind];by_cases h1:∃p q,r=(.name 1,p)::q
  ·refine cu (aN ((cU (hR.ok ok) (by decide)).mpr h1)) ?_;obtain⟨p,q,rfl⟩:=h1;rw[Ka]at kk;refine iQ hl rfl hR λH1 b m1 kr tk=>?_
   refine⟨12,rfl,λH2 a2 K8 l2 UI s2 QO=>?_⟩;refine⟨a2,K8,l2,UI,_,_,2,rfl,QO,by decide,λH3 a3 XF l3 Yj s3 pa3=>?_⟩;exact kk.1 (.load 2 (.num 12)) q rfl H3 a3 XF l3 Yj (m1.trans (.of (s2.trans s3))) (kr.same (s2.trans s3)) pa3
  refine cx (by rw[aQ (λx=>h1 ((cU (hR.ok ok) (by decide)).mp x))];exact az) ?_;rw[QQ (N4 h2 h4 hn h0 h1)]at kk;exact R0 C.D hl rfl hR ⟨_,rfl,λa=>kk.2 _ rfl H a .refl⟩
end
def Po(lo n b:Nat):List (Key×V):=(List.range n).map λi=>(.inr (dS (dW (lo+i))),vN (b+i))
theorem LX:∀j<27,jh (Po 10 4 3) (.inr (dS (tab.getD j [])))=if 10<=j/\j<=13 then some (vN (j - 7))else none:=by decide +kernel
theorem Hu:∀j<27,jh (Po 7 3 0) (.inr (dS (tab.getD j [])))=if 7<=j/\j<=9 then some (vN (j - 7))else none:=by decide +kernel
theorem Qe:∀j<27,jh (Po 14 6 0) (.inr (dS (tab.getD j [])))=if 14<=j/\j<=19 then some (vN (j - 14))else none:=by decide +kernel
theorem Gs(ok:b9 r):yq r<27/\tab.getD (yq r) []=l_ r:=by
 have h:=Lo ok;have h1:=(List.getElem?_eq_some_iff.mp h).1;rw[SX]at h1;refine⟨h1,?_⟩;rw[List.getD_eq_getElem?_getD,h];rfl
theorem iO{lo:Nat}(ok:b9 r)(h:hi<20):isSign lo hi r=decide (lo<=yq r/\yq r<=hi):=by
 cases r with
 |nil=>exact(aQ (by show ¬(lo<=26/\26<=hi);omega)).symm
 |cons x q=>
  have:=ok x bB;obtain⟨t,p⟩:=x;cases t with
  |num n=>exact(aQ (by show ¬(lo<=25/\25<=hi);omega)).symm
  |name k=>exact(aQ (by show ¬(lo<=20+k/\20+k<=hi);omega)).symm
  |sign k=>rfl
theorem nX{lo:Nat}(h:isSign lo hi r=true):∃k p q,r=(.sign k,p)::q/\lo<=k/\k<=hi:=by
 cases r with
 |nil=>cases h
 |cons x q=>
  obtain⟨t,p⟩:=x;cases t with
  |num n=>cases h
  |name k=>cases h
  |sign k=>exact⟨k,p,q,rfl,cj h⟩
def fh(R:RC)(H:Hp):Nat:=match H R.ra with
 |some (.ins _ _ fs)=>(match fs.lookup ("done":Str)with
  |some (.int i)=>R.l.length - i.toNat
  |_=>0)
 |_=>0
theorem dw.left(h:dw R H r o):fh R H=r.length:=by
 obtain⟨n,h1,h2,h3⟩:=h.at_;unfold fh;rw[h1];dsimp only;rw[L1];show R.l.length - ((n:Int)).toNat=_;rw[<-h2,a_];omega
section
variable {CR CT CP CE N fI:Addr} {jD:FuncData}
theorem pV{Q1 Q2:VK}(hq:∀v H',Q1 v H'->Q2 v H')(h:zh K (oX CR "coming" (i6 CR CT) [] E (dJ i) gj) fl σ H Q1):zh K (oX CR "coming" (i6 CR CT) [] E (dJ i) gj) fl σ H Q2:=by
 obtain⟨v0,e0,a,dx,fs,e1,h1,lk,R,r,o,e2,e3,e4,hR,hl,k⟩:=h;refine⟨v0,e0,a,dx,fs,e1,h1,lk,R,r,o,e2,e3,e4,hR,hl,λb tk=>?_⟩;obtain⟨a',C',XG,fs',v',z1,z2,z3,z4,z5,z6⟩:=k b tk;exact⟨a',C',XG,fs',v',z1,z2,z3,z4,z5,hq _ _ z6⟩
theorem Fs(F:bU K "read_term" "read_term" kK f fd)(C:FC P w K mg CR CT CP CE N fI jD)(hk:4<=k)
  (mP:mg "read_part"=some (.ref fP)) (cP:Calls (gq P w CE) P w K mg fP k (Pn CR CT CP eC d)) (mO:mg "operation_piece"=some (.ref fO)) (cO:Calls aV P w K mg fO 4 (vB CP)) (mT:mg "TERM_SIGNS"=some (.ref aT)) (kT:jg K w aT (Po 10 4 3)):
  aP P w K mg base (gq P w CE) (k+1) f fd ["reader"] (Pn CR CT CP pG d):=by
 refine bU.JA F ud (λvs H Q E h=>?_) (λbG A outer s H vs Q E hr h=>?_)
 ·obtain⟨R,r,o,rfl,_⟩:=h;rfl
 ·obtain⟨R,r,o,rfl,rfl,rfl,hR,ho,hl,ok,kk⟩:=h;have nd:=ud.nd;have jL:dR 1 _:=hr.mono (by omega);have Rr:=hr.mono hk;refine⟨_,ae (aB (i:=1) nd rfl (Or.inl rfl) (aR cP mP hr df (aa (pv 0) aj)))
   (ae (fi PassesOwn.leaving (jm (QL kT (aD (bT C.D.GZ C.D.R.cl (pv 0) jL aE) rfl) (BV mT)))
    (ae (aB (i:=2) nd rfl (Or.inl rfl) (yK kT (BV mT) (aD (bT C.D.Pl C.D.R.cl (pv 0) jL aE) rfl)))
    (ag (aB (i:=1) nd rfl (Or.inl rfl) (aR cO mO Rr aE (aa (pv 2) (aa (pv 1) (aa (aR cP mP hr df (aa (pv 0) aj)) aj))))))))
   (ag (aq (pv 1)))),?_⟩
  rw[QP]at kk;refine⟨_,rfl,R,r,o,rfl,rfl,rfl,hR,ho,hl,ok,λv r1 ev H1 a dx l rs m1 kr pa=>?_,λz ez H1 b m1=>kk.2 z (by rw[ez];rfl) H1 b m1⟩;rw[ev]at kk;have Wf:Q4 CP R (fz R.e d v r1) o H1 Q E:=kk.move m1;have gv:=HL (hR.ok ok) ev;refine eY (λσ H'=>∃(u:Sf84.Val) (r':Toks) (a dx l:Addr) (rs:List Addr) (v2:Option V),σ=[some (.ref R.ra),some (.ref a),v2]/\dw R H' r' o/\bI CP H' a (d6 u) (bX u) dx l rs/\MO u/\(bX u).length+2*r'.length<=2200/\Q4 CP R (fz R.e d u r') o H' Q E)
   (λ_ H'=>fh R H') ⟨v,r1,a,dx,l,rs,none,rfl,kr,pa,gv.ok,?_,Wf⟩ ?_ ?_
  ·have h1:=gv.len;have h2:=hR.le;omega
  ·rintro σ H2 ⟨u,r',a,dx,l,rs,v2,rfl,j_,pa,ou,lu,k2⟩
   have Ab:=j_.ok ok;obtain⟨hj,ej⟩:=Gs Ab;refine ve C.D hl rfl j_ ⟨.inr (dS (l_ r')),rfl,rfl,_,rfl,?_⟩;rw[<-ej,LX _ hj];by_cases hs:10<=yq r'/\yq r'<=13
   ·rw[ai hs];refine cu rfl ?_;have hs':isSign 10 13 r'=true:=by rw[iO Ab (by decide)];exact aN hs
    obtain⟨j,p,q,rfl,j1,j2⟩:=nX hs';rw[Fd ⟨j1,j2⟩]at k2;refine iQ hl rfl j_ λH3 b3 m3 l7 tk=>?_
    obtain⟨XF,tk⟩:=tk;have eg:=LX j (by omega);rw[ai ⟨j1,j2⟩]at eg;have ZM:tab.getD j []=dW j:=by rw[List.getD_eq_getElem?_getD,qB (by omega)];rfl
    rw[ZM]at eg;refine⟨_,_,_,_,_,rfl,tk,C.D.T.cl,C.D.T.nS,Hb _ _ _,.inr (dS (dW j)),_,rfl,rfl,eg,?_⟩;refine⟨_,rfl,_,rfl,_,rfl,R,q,o,rfl,rfl,rfl,l7,ho,hl,ok,λx r4 ex H4 a4 RR l4 Qk m4 IH Md=>?_,λz ez H4 b m4=>k2.2 z (by rw[ez];rfl) H4 b (m3.trans m4)⟩;rw[ex]at k2;have gx:=HL (l7.ok ok) ex;have g1:=gx.len;have g2:((Sf84.Tok.sign j,p)::q).length=q.length+1:=rfl;have g3:=tG (j - 7) u x;refine⟨a,dx,l,a4,RR,l4,rs,Qk,j - 7,u,x,rfl,(pa.mv j_ m3).mv l7 m4,Md,by omega,ou,gx.ok,by show _<=100000;omega,by show _<=100000;omega,λH5 a5 Us l5 Td s5 Tt=>?_⟩;refine⟨⟨.op (j - 7) u x,r4,a5,Us,l5,Td,_,rfl,IH.same s5,Tt,EA ou gx.ok,by omega,k2.move (m3.trans (m4.trans (.of s5)))⟩,?_⟩;show fh R H5<fh R H2;rw[(IH.same s5).left,j_.left];have:=Nt ex;omega
   ·rw[ah hs];refine cx az ?_;have hs':isSign 10 13 r'=false:=by rw[iO Ab (by decide)];exact aQ hs
    rw[BX hs']at k2;exact⟨_,rfl,k2.1 u r' rfl H2 a dx l rs .refl j_ pa⟩
  ·intro σ H1 Q1 Q2 hq h;refine pV (λv H' hv=>?_) h;obtain⟨k',y1,y2,b',y3,y4⟩:=hv;exact⟨k',y1,y2,b',y3,hq _ _ y4⟩
theorem B8(F:bU K "read_value" "read_value" jA f fd)(C:FC P w K mg CR CT CP CE N fI jD)(hk:4<=k)
  (mP:mg "read_term"=some (.ref fP)) (cP:Calls (gq P w CE) P w K mg fP k (Pn CR CT CP pG d)) (mO:mg "operation_piece"=some (.ref fO)) (cO:Calls aV P w K mg fO 4 (vB CP)) (mT:mg "VALUE_SIGNS"=some (.ref aT)) (kT:jg K w aT (Po 7 3 0)):
  aP P w K mg base (gq P w CE) (k+1) f fd ["reader"] (Pn CR CT CP eh d):=by
 refine bU.JA F rg (λvs H Q E h=>?_) (λbG A outer s H vs Q E hr h=>?_)
 ·obtain⟨R,r,o,rfl,_⟩:=h;rfl
 ·obtain⟨R,r,o,rfl,rfl,rfl,hR,ho,hl,ok,kk⟩:=h;have nd:=rg.nd;have jL:dR 1 _:=hr.mono (by omega);have Rr:=hr.mono hk;refine⟨_,ae (aB (i:=1) nd rfl (Or.inl rfl) (aR cP mP hr df (aa (pv 0) aj)))
   (ae (fi PassesOwn.leaving (jm (QL kT (aD (bT C.D.GZ C.D.R.cl (pv 0) jL aE) rfl) (BV mT)))
    (ae (aB (i:=2) nd rfl (Or.inl rfl) (yK kT (BV mT) (aD (bT C.D.Pl C.D.R.cl (pv 0) jL aE) rfl)))
    (ag (aB (i:=1) nd rfl (Or.inl rfl) (aR cO mO Rr aE (aa (pv 2) (aa (pv 1) (aa (aR cP mP hr df (aa (pv 0) aj)) aj))))))))
   (ag (aq (pv 1)))),?_⟩
  rw[Np]at kk;refine⟨_,rfl,R,r,o,rfl,rfl,rfl,hR,ho,hl,ok,λv r1 ev H1 a dx l rs m1 kr pa=>?_,λz ez H1 b m1=>kk.2 z (by rw[ez];rfl) H1 b m1⟩;rw[ev]at kk;have Wf:Q4 CP R (eL R.e d v r1) o H1 Q E:=kk.move m1;have gv:=HK (hR.ok ok) ev;refine eY (λσ H'=>∃(u:Sf84.Val) (r':Toks) (a dx l:Addr) (rs:List Addr) (v2:Option V),σ=[some (.ref R.ra),some (.ref a),v2]/\dw R H' r' o/\bI CP H' a (d6 u) (bX u) dx l rs/\MO u/\(bX u).length+2*r'.length<=2200/\Q4 CP R (eL R.e d u r') o H' Q E)
   (λ_ H'=>fh R H') ⟨v,r1,a,dx,l,rs,none,rfl,kr,pa,gv.ok,?_,Wf⟩ ?_ ?_
  ·have h1:=gv.len;have h2:=hR.le;omega
  ·rintro σ H2 ⟨u,r',a,dx,l,rs,v2,rfl,j_,pa,ou,lu,k2⟩
   have Ab:=j_.ok ok;obtain⟨hj,ej⟩:=Gs Ab;refine ve C.D hl rfl j_ ⟨.inr (dS (l_ r')),rfl,rfl,_,rfl,?_⟩;rw[<-ej,Hu _ hj];by_cases hs:7<=yq r'/\yq r'<=9
   ·rw[ai hs];refine cu rfl ?_;have hs':isSign 7 9 r'=true:=by rw[iO Ab (by decide)];exact aN hs
    obtain⟨j,p,q,rfl,j1,j2⟩:=nX hs';rw[BW ⟨j1,j2⟩]at k2;refine iQ hl rfl j_ λH3 b3 m3 l7 tk=>?_
    obtain⟨XF,tk⟩:=tk;have eg:=Hu j (by omega);rw[ai ⟨j1,j2⟩]at eg;have ZM:tab.getD j []=dW j:=by rw[List.getD_eq_getElem?_getD,qB (by omega)];rfl
    rw[ZM]at eg;refine⟨_,_,_,_,_,rfl,tk,C.D.T.cl,C.D.T.nS,Hb _ _ _,.inr (dS (dW j)),_,rfl,rfl,eg,?_⟩;refine⟨_,rfl,_,rfl,_,rfl,R,q,o,rfl,rfl,rfl,l7,ho,hl,ok,λx r4 ex H4 a4 RR l4 Qk m4 IH Md=>?_,λz ez H4 b m4=>k2.2 z (by rw[ez];rfl) H4 b (m3.trans m4)⟩;rw[ex]at k2;have gx:=HK (l7.ok ok) ex;have g1:=gx.len;have g2:((Sf84.Tok.sign j,p)::q).length=q.length+1:=rfl;have g3:=tG (j - 7) u x;refine⟨a,dx,l,a4,RR,l4,rs,Qk,j - 7,u,x,rfl,(pa.mv j_ m3).mv l7 m4,Md,by omega,ou,gx.ok,by show _<=100000;omega,by show _<=100000;omega,λH5 a5 Us l5 Td s5 Tt=>?_⟩;refine⟨⟨.op (j - 7) u x,r4,a5,Us,l5,Td,_,rfl,IH.same s5,Tt,EA ou gx.ok,by omega,k2.move (m3.trans (m4.trans (.of s5)))⟩,?_⟩;show fh R H5<fh R H2;rw[(IH.same s5).left,j_.left];have:=Nq ex;omega
   ·rw[ah hs];refine cx az ?_;have hs':isSign 7 9 r'=false:=by rw[iO Ab (by decide)];exact aQ hs
    rw[z9 hs']at k2;exact⟨_,rfl,k2.1 u r' rfl H2 a dx l rs .refl j_ pa⟩
  ·intro σ H1 Q1 Q2 hq h;refine pV (λv H' hv=>?_) h;obtain⟨k',y1,y2,b',y3,y4⟩:=hv;exact⟨k',y1,y2,b',y3,hq _ _ y4⟩
end
section
variable {CR CT CP CE N fI:Addr} {jD:FuncData}
theorem UP:aP P w K mg base CX k f fd ps VA:=⟨λ_ _ _ _ h=>h.elim,λ_ _ _ _ _ _ _ _ _ _ _ _ _ h=>h.elim⟩
structure VD(P:Program)(w:World)(K:Frag)(mg:Str->Option Value)(CR CT CP CE N fI:Addr)(jD:FuncData):Prop where
 C:FC P w K mg CR CT CP CE N fI jD
 val:∃f fd,Def K mg "read_value" jA ["reader"] f fd
 trm:∃f fd,Def K mg "read_term" kK ["reader"] f fd
 prt:∃f fd,Def K mg "read_part" kN ["reader"] f fd
 GC:∃f fd,Def K mg "read_bytes" jC ["reader"] f fd
 brc:∃f fd,Def K mg "read_braces" iS ["reader"] f fd
 siz:∃f fd,Def K mg "read_size" kM ["reader"] f fd
 most:GI mg "MOST_BYTES_OF_VALUE" 8
 gP:GI mg "KIND_PLACE" 12
 gS:GI mg "KIND_SIZE" 2
 kno:∃f,mg "known_piece"=some (.ref f)/\Calls aV P w K mg f 3 (kD CP)
 len:∃f,mg "length_piece"=some (.ref f)/\Calls aV P w K mg f 3 (ES CP)
 bpc:∃f,mg "bytes_piece"=some (.ref f)/\Calls aV P w K mg f 3 (mx CP)
 opc:∃f,mg "operation_piece"=some (.ref f)/\Calls aV P w K mg f 4 (vB CP)
 dT:∃a,mg "TERM_SIGNS"=some (.ref a)/\jg K w a (Po 10 4 3)
 dV:∃a,mg "VALUE_SIGNS"=some (.ref a)/\jg K w a (Po 7 3 0)
theorem G6(V:VD P w K mg CR CT CP CE N fI jD)(mV:mg "read_value"=some (.ref fV)){d:Nat}(cV:Calls (gq P w CE) P w K mg fV (4*d+4) (Qw CR CT CP d)):Calls (gq P w CE) P w K mg fV (4*d+8) (Pn CR CT CP eh d):=by
 obtain⟨f1,fd1,D1⟩:=V.val;obtain⟨f2,fd2,D2⟩:=V.trm;obtain⟨f3,fd3,D3⟩:=V.prt;obtain⟨f4,fd4,D4⟩:=V.GC;obtain⟨f5,fd5,D5⟩:=V.brc;obtain⟨f6,fd6,D6⟩:=V.siz;obtain⟨f7,m7,c7⟩:=V.kno;obtain⟨f8,m8,c8⟩:=V.len;obtain⟨f9,m9,c9⟩:=V.bpc;obtain⟨f10,m10,c10⟩:=V.opc;obtain⟨a1,n1,k1⟩:=V.dT;obtain⟨a2,n2,k2⟩:=V.dV;have e1:f1=fV:=by
  have:=D1.nm;rw[mV]at this;exact(Value.ref.inj (aO this)).symm
 subst e1;have cS:Calls (gq P w CE) P w K mg f6 3 (EK CR CT):=D6.calls λbase=>Ft D6.fn V.C V.most
 have cY:Calls (gq P w CE) P w K mg f4 (4*d+5) (JS CR CT CP 2 d):=D4.calls λbase=>B_ D4.fn V.C (by omega) mV cV D6.nm cS m9 c9
 have cZ:Calls (gq P w CE) P w K mg f5 (4*d+5) (JS CR CT CP 4 d):=D5.calls λbase=>Af D5.fn V.C (by omega) mV cV
 have cP:Calls (gq P w CE) P w K mg f3 (4*d+6) (Pn CR CT CP eC d):=D3.calls λbase=>Fu D3.fn V.C (by omega) D4.nm cY D5.nm cZ m7 c7 m8 c8 m9 c9 V.gP V.gS
 have cT:Calls (gq P w CE) P w K mg f2 (4*d+7) (Pn CR CT CP pG d):=D2.calls λbase=>Fs D2.fn V.C (by omega) D3.nm cP m10 c10 n1 k1
 exact D1.calls λbase=>B8 D1.fn V.C (by omega) D2.nm cT m10 c10 n2 k2
theorem LK(V:VD P w K mg CR CT CP CE N fI jD)(mV:mg "read_value"=some (.ref fV)):∀d,Calls (gq P w CE) P w K mg fV (4*d+8) (Pn CR CT CP eh d)
 |0=>by
  obtain⟨f1,fd1,D1⟩:=V.val;have e1:f1=fV:=by
   have:=D1.nm;rw[mV]at this;exact(Value.ref.inj (aO this)).symm
  subst e1;exact G6 V mV (D1.calls λbase=>UP)
 |d+1=>G6 V mV (LK V mV d)
end
theorem YR:("or":Str)=dS (pI 3):=by decide +kernel
theorem Wb:("and":Str)=dS (pI 2):=by decide +kernel
theorem V_:("not":Str)=dS (pI 4):=by decide +kernel
theorem abF:("(":Str)=dS (dW 0):=by decide +kernel
def Sw(CP:Addr)(R:RC)(res:Except Nat (Sf84.Test×Toks))(o:Nat)(H:Hp)(Q:VK)(E:XK):Prop:=
 (∀v r',res= .ok (v,r')->∀(H':Hp) (a dx l:Addr) (rs:List Addr),Moved R.ra H H'->dw R H' r' o->bI CP H' a (da v) (bA v) dx l rs->Q (.ref a) H')/\
 (∀p,res= .error p->∀(H':Hp) (a:Addr),Moved R.ra H H'->E (.int (p:Nat) 0) (some a) H')
theorem Sw.move(k:Sw CP R res o H Q E)(m:Moved R.ra H H1):Sw CP R res o H1 Q E:=
 ⟨λv r' e H' a dx l rs m1 hr pa=>k.1 v r' e H' a dx l rs (m.trans m1) hr pa,λp e H' a m1=>k.2 p e H' a (m.trans m1)⟩
inductive spT(CR CT CP:Addr)(g:Nat->Nat->Toks->Except Nat (Sf84.Test×Toks))(d:Nat)(vs:List V)(H:Hp)(Q:VK)(E:XK):Prop
 |mk (R:RC) (r:Toks) (o:Nat):vs=[.ref R.ra]->R.CR=CR->R.CT=CT->dw R H r o->o+d=40->R.l.length<=1100->b9 R.l->Sw CP R (g R.e d r) o H Q E->spT CR CT CP g d vs H Q E
theorem wB(h:¬∃p q,r=(.name j,p)::q):isName j r=false:=by
 cases r with
 |nil=>rfl
 |cons x q=>
  obtain⟨t,p⟩:=x;cases t with
  |num n=>rfl
  |name k=>exact aQ (λe=>h ⟨p,q,by rw[e]⟩)
  |sign k=>rfl
theorem Tu{l:Toks}{v:Sf84.Val}(ev:eh e d l= .ok (v,r))(h:isSign 14 19 r=false):BY e d l= .error (Sf84.here e r):=by
 unfold BY;rw[ev];show(match r with|(.sign k,p)::q=>if 14<=k/\k<=19 then(eh e d q).map λ(y:Sf84.Val×Toks)=>(Sf84.Test.cmp (k - 14) v y.1,y.2)else .error p|t=>.error (Sf84.here e t))=_;split
 ·rename_i k p q;rw[ah (eQ h)];rfl
 ·rfl
theorem QU{l:Toks}{v:Sf84.Val}(ev:eh e d l= .ok (v,(.sign k,p)::q))(h:14<=k/\k<=19):BY e d l=(eh e d q).map λ(y:Sf84.Val×Toks)=>(Sf84.Test.cmp (k - 14) v y.1,y.2):=by
 unfold BY;rw[ev];show(if 14<=k/\k<=19 then(eh e d q).map λ(y:Sf84.Val×Toks)=>(Sf84.Test.cmp (k - 14) v y.1,y.2)else .error p)=_;rw[ai h]
section
variable {CR CT CP CE N fI:Addr} {jD:FuncData}
theorem sh(F:bU K "read_comparison" "read_comparison" eV f fd)(C:FC P w K mg CR CT CP CE N fI jD)(hk:4<=k)
  (mV:mg "read_value"=some (.ref fV)) (cV:Calls (gq P w CE) P w K mg fV k (Pn CR CT CP eh d)) (mO:mg "comparison_piece"=some (.ref fO)) (cO:Calls aV P w K mg fO 4 (tZ CP)) (mT:mg "COMPARISON_SIGNS"=some (.ref aT)) (kT:jg K w aT (Po 14 6 0)):
  aP P w K mg base (gq P w CE) (k+1) f fd ["reader"] (spT CR CT CP BY d):=by
 refine bU.JA F jN (λvs H Q E h=>?_) (λbG A outer s H vs Q E hr h=>?_)
 ·obtain⟨R,r,o,rfl,_⟩:=h;rfl
 ·obtain⟨R,r,o,rfl,rfl,rfl,hR,ho,hl,ok,kk⟩:=h;have nd:=jN.nd;have jL:dR 1 _:=hr.mono (by omega);have Rr:=hr.mono hk;refine⟨_,ae (aB (i:=1) nd rfl (Or.inl rfl) (aR cV mV hr df (aa (pv 0) aj)))
   (ae (a7 (jm (Nn kT (aD (bT C.D.GZ C.D.R.cl (pv 0) jL aE) rfl) (BV mT))) (ag (lY C.D.X df jL (aD (bT C.D.GZ C.D.R.cl (pv 0) jL aE) rfl))) aJ)
   (ae (aB (i:=2) nd rfl (Or.inl rfl) (yK kT (BV mT) (aD (bT C.D.Pl C.D.R.cl (pv 0) jL aE) rfl)))
   (ag (aq (aR cO mO Rr aE (aa (pv 2) (aa (pv 1) (aa (aR cV mV hr df (aa (pv 0) aj)) aj)))))))),?_⟩
  refine⟨_,rfl,R,r,o,rfl,rfl,rfl,hR,ho,hl,ok,λv r1 ev H1 a dx l rs m1 kr pa=>?_,λz ez H1 b m1=>kk.2 z (by unfold BY;rw[ez];rfl) H1 b m1⟩;have gv:=vU (hR.ok ok) ev;have Ab:=kr.ok ok;obtain⟨hj,ej⟩:=Gs Ab;refine ve C.D hl rfl kr ⟨.inr (dS (l_ r1)),rfl,rfl,_,rfl,?_⟩;rw[<-ej,Qe _ hj];by_cases hs:14<=yq r1/\yq r1<=19
  ·rw[ai hs];refine cx az ?_;have hs':isSign 14 19 r1=true:=by rw[iO Ab (by decide)];exact aN hs
   obtain⟨j,p,q,rfl,j1,j2⟩:=nX hs';rw[QU ev ⟨j1,j2⟩]at kk;refine iQ hl rfl kr λH3 b3 m3 l7 tk=>?_
   obtain⟨XF,tk⟩:=tk;have eg:=Qe j (by omega);rw[ai ⟨j1,j2⟩]at eg;have ZM:tab.getD j []=dW j:=by rw[List.getD_eq_getElem?_getD,qB (by omega)];rfl
   rw[ZM]at eg;refine⟨_,_,_,_,_,rfl,tk,C.D.T.cl,C.D.T.nS,Hb _ _ _,.inr (dS (dW j)),_,rfl,rfl,eg,?_⟩;refine⟨_,rfl,_,rfl,_,rfl,R,q,o,rfl,rfl,rfl,l7,ho,hl,ok,λx r4 ex H4 a4 RR l4 Qk m4 IH Md=>?_,λz ez H4 b m4=>kk.2 z (by rw[ez];rfl) H4 b (m1.trans (m3.trans m4))⟩;rw[ex]at kk;have gx:=vU (l7.ok ok) ex;have g1:=gx.len;have g0:=gv.len;have g2:=hR.le;have g3:=l7.le;refine⟨a,dx,l,a4,RR,l4,rs,Qk,j - 14,v,x,rfl,(pa.mv kr m3).mv l7 m4,Md,by omega,gv.ok,gx.ok,by show _<=100000;omega,by show _<=100000;omega,λH5 a5 Us l5 Td s5 Tt=>?_⟩;exact kk.1 (.cmp (j - 14) v x) r4 rfl H5 a5 Us l5 Td (m1.trans (m3.trans (m4.trans (.of s5)))) (IH.same s5) Tt
  ·rw[ah hs];refine cu rfl ?_;have hs':isSign 14 19 r1=false:=by rw[iO Ab (by decide)];exact aQ hs
   rw[Tu ev hs']at kk;exact R0 C.D hl rfl kr ⟨_,rfl,λb=>kk.2 _ rfl H1 b m1⟩
theorem B9(F:bU K "read_tests" "read_tests" jB f fd)(C:FC P w K mg CR CT CP CE N fI jD)(hk:4<=k)
  (mP:mg "read_test"=some (.ref fP)) (cP:Calls (gq P w CE) P w K mg fP k (spT CR CT CP jo d)) (mO:mg "and_piece"=some (.ref fO)) (cO:Calls aV P w K mg fO 4 (t7 CP .and_)):
  aP P w K mg base (gq P w CE) (k+1) f fd ["reader"] (spT CR CT CP pH d):=by
 refine bU.JA F rh (λvs H Q E h=>?_) (λbG A outer s H vs Q E hr h=>?_)
 ·obtain⟨R,r,o,rfl,_⟩:=h;rfl
 ·obtain⟨R,r,o,rfl,rfl,rfl,hR,ho,hl,ok,kk⟩:=h;have nd:=rh.nd;have jL:dR 1 _:=hr.mono (by omega);have Rr:=hr.mono hk;refine⟨_,ae (aB (i:=1) nd rfl (Or.inl rfl) (aR cP mP hr df (aa (pv 0) aj)))
   (ae (fi PassesOwn.leaving (aF dg (aD (bT C.D.GZ C.D.R.cl (pv 0) jL aE) rfl) fj (aK _))
    (ae (aU (bT C.D.Pl C.D.R.cl (pv 0) jL aE))
    (ag (aB (i:=1) nd rfl (Or.inl rfl) (aR cO mO Rr aE (aa (pv 1) (aa (aR cP mP hr df (aa (pv 0) aj)) aj)))))))
   (ag (aq (pv 1)))),?_⟩
  rw[QV]at kk;refine⟨_,rfl,R,r,o,rfl,rfl,rfl,hR,ho,hl,ok,λv r1 ev H1 a dx l rs m1 kr pa=>?_,λz ez H1 b m1=>kk.2 z (by rw[ez];rfl) H1 b m1⟩;rw[ev]at kk;have Wf:Sw CP R (fM R.e d v r1) o H1 Q E:=kk.move m1;have gv:=Fg (hR.ok ok) ev;refine eY (λσ H'=>∃(u:Sf84.Test) (r':Toks) (a dx l:Addr) (rs:List Addr),σ=[some (.ref R.ra),some (.ref a)]/\dw R H' r' o/\bI CP H' a (da u) (bA u) dx l rs/\(bA u).length+2*r'.length<=2200/\Sw CP R (fM R.e d u r') o H' Q E)
   (λ_ H'=>fh R H') ⟨v,r1,a,dx,l,rs,rfl,kr,pa,?_,Wf⟩ ?_ ?_
  ·have h1:=gv.len;have h2:=hR.le;omega
  ·rintro σ H2 ⟨u,r',a,dx,l,rs,rfl,j_,pa,lu,k2⟩
   have Ab:=j_.ok ok;refine ve C.D hl rfl j_ ⟨rfl,_,rfl,?_⟩;rw[CQ Wb];by_cases hs:∃p q,r'=(.name 2,p)::q
   ·refine cu (aN ((cU Ab (by decide)).mpr hs)) ?_;obtain⟨p,q,rfl⟩:=hs;rw[Fh]at k2;refine iQ hl rfl j_ λH3 b3 m3 l7 tk=>?_
    refine⟨_,rfl,_,rfl,R,q,o,rfl,rfl,rfl,l7,ho,hl,ok,λx r4 ex H4 a4 RR l4 Qk m4 IH Md=>?_,λz ez H4 b m4=>k2.2 z (by rw[ez];rfl) H4 b (m3.trans m4)⟩;rw[ex]at k2;have gx:=Fg (l7.ok ok) ex;have g1:=gx.len;have g2:((Sf84.Tok.name 2,p)::q).length=q.length+1:=rfl;have g3:=Hh u x;refine⟨a,dx,l,a4,RR,l4,rs,Qk,u,x,rfl,(pa.mv j_ m3).mv l7 m4,Md,by show _<=100000;omega,by show _<=100000;omega,λH5 a5 Us l5 Td s5 Tt=>?_⟩;refine⟨⟨.and_ u x,r4,a5,Us,l5,Td,rfl,IH.same s5,Tt,by omega,k2.move (m3.trans (m4.trans (.of s5)))⟩,?_⟩;show fh R H5<fh R H2;rw[(IH.same s5).left,j_.left];have:=QS ex;omega
   ·refine cx (by rw[aQ (λx=>hs ((cU Ab (by decide)).mp x))];exact az) ?_;rw[BZ (wB hs)]at k2;exact⟨_,rfl,k2.1 u r' rfl H2 a dx l rs .refl j_ pa⟩
  ·intro σ H1 Q1 Q2 hq h;refine pV (λv H' hv=>?_) h;obtain⟨y2,b',y3,y4⟩:=hv;exact⟨y2,b',y3,hq _ _ y4⟩
theorem Ae(F:bU K "read_filter" "read_filter" iR f fd)(C:FC P w K mg CR CT CP CE N fI jD)(hk:4<=k)
  (mP:mg "read_tests"=some (.ref fP)) (cP:Calls (gq P w CE) P w K mg fP k (spT CR CT CP pH d)) (mO:mg "or_piece"=some (.ref fO)) (cO:Calls aV P w K mg fO 4 (t7 CP .or_)):
  aP P w K mg base (gq P w CE) (k+1) f fd ["reader"] (spT CR CT CP eW d):=by
 refine bU.JA F o7 (λvs H Q E h=>?_) (λbG A outer s H vs Q E hr h=>?_)
 ·obtain⟨R,r,o,rfl,_⟩:=h;rfl
 ·obtain⟨R,r,o,rfl,rfl,rfl,hR,ho,hl,ok,kk⟩:=h;have nd:=o7.nd;have jL:dR 1 _:=hr.mono (by omega);have Rr:=hr.mono hk;refine⟨_,ae (aB (i:=1) nd rfl (Or.inl rfl) (aR cP mP hr df (aa (pv 0) aj)))
   (ae (fi PassesOwn.leaving (aF dg (aD (bT C.D.GZ C.D.R.cl (pv 0) jL aE) rfl) fj (aK _))
    (ae (aU (bT C.D.Pl C.D.R.cl (pv 0) jL aE))
    (ag (aB (i:=1) nd rfl (Or.inl rfl) (aR cO mO Rr aE (aa (pv 1) (aa (aR cP mP hr df (aa (pv 0) aj)) aj)))))))
   (ag (aq (pv 1)))),?_⟩
  rw[Kc]at kk;refine⟨_,rfl,R,r,o,rfl,rfl,rfl,hR,ho,hl,ok,λv r1 ev H1 a dx l rs m1 kr pa=>?_,λz ez H1 b m1=>kk.2 z (by rw[ez];rfl) H1 b m1⟩;rw[ev]at kk;have Wf:Sw CP R (dY R.e d v r1) o H1 Q E:=kk.move m1;have gv:=HQ (hR.ok ok) ev;refine eY (λσ H'=>∃(u:Sf84.Test) (r':Toks) (a dx l:Addr) (rs:List Addr),σ=[some (.ref R.ra),some (.ref a)]/\dw R H' r' o/\bI CP H' a (da u) (bA u) dx l rs/\(bA u).length+2*r'.length<=2200/\Sw CP R (dY R.e d u r') o H' Q E)
   (λ_ H'=>fh R H') ⟨v,r1,a,dx,l,rs,rfl,kr,pa,?_,Wf⟩ ?_ ?_
  ·have h1:=gv.len;have h2:=hR.le;omega
  ·rintro σ H2 ⟨u,r',a,dx,l,rs,rfl,j_,pa,lu,k2⟩
   have Ab:=j_.ok ok;refine ve C.D hl rfl j_ ⟨rfl,_,rfl,?_⟩;rw[CQ YR];by_cases hs:∃p q,r'=(.name 3,p)::q
   ·refine cu (aN ((cU Ab (by decide)).mpr hs)) ?_;obtain⟨p,q,rfl⟩:=hs;rw[Aa]at k2;refine iQ hl rfl j_ λH3 b3 m3 l7 tk=>?_
    refine⟨_,rfl,_,rfl,R,q,o,rfl,rfl,rfl,l7,ho,hl,ok,λx r4 ex H4 a4 RR l4 Qk m4 IH Md=>?_,λz ez H4 b m4=>k2.2 z (by rw[ez];rfl) H4 b (m3.trans m4)⟩;rw[ex]at k2;have gx:=HQ (l7.ok ok) ex;have g1:=gx.len;have g2:((Sf84.Tok.name 3,p)::q).length=q.length+1:=rfl;have g3:=LO u x;refine⟨a,dx,l,a4,RR,l4,rs,Qk,u,x,rfl,(pa.mv j_ m3).mv l7 m4,Md,by show _<=100000;omega,by show _<=100000;omega,λH5 a5 Us l5 Td s5 Tt=>?_⟩;refine⟨⟨.or_ u x,r4,a5,Us,l5,Td,rfl,IH.same s5,Tt,by omega,k2.move (m3.trans (m4.trans (.of s5)))⟩,?_⟩;show fh R H5<fh R H2;rw[(IH.same s5).left,j_.left];have:=Nu ex;omega
   ·refine cx (by rw[aQ (λx=>hs ((cU Ab (by decide)).mp x))];exact az) ?_;rw[x9 (wB hs)]at k2;exact⟨_,rfl,k2.1 u r' rfl H2 a dx l rs .refl j_ pa⟩
  ·intro σ H1 Q1 Q2 hq h;refine pV (λv H' hv=>?_) h;obtain⟨y2,b',y3,y4⟩:=hv;exact⟨y2,b',y3,hq _ _ y4⟩
end
def UN(CR CT CP:Addr):Nat->Sp
 |0=>VA
 |d+1=>spT CR CT CP eW d
def DR(n:Nat)(x:Except Nat (Sf84.Test×Toks)):Except Nat (Sf84.Test×Toks):=x.map λy=>(NI n y.1,y.2)
theorem NH:DR n (jo e d ((.name 4,p)::q))=DR (n+1) (jo e d q):=by
 rw[QR];unfold DR;cases jo e d q with
 |error z=>rfl
 |ok x=>rfl
section
variable {CR CT CP CE N fI:Addr} {jD:FuncData}
theorem Ds{v:Sf84.Test}{D:Ends}(hQ:D.rt=Q)(hR:dw R H r o)(pa:bI CP H a (da v) (bA v) dx l rs)(lv:(bA v).length+n<=5000)
  (k:Sw CP R (.ok (NI n v,r)) o H Q E):
  P0 (XU (UX (d5 (dJ 1) gj)) (AZ 3) (S1 (zi (qw CP) [] E0 (d5 (dJ 2) gj)) (AZ 2))) (vy (dJ 2)) D [some (.ref R.ra),some (vN n),some (.ref a),none] H:=by
 refine⟨_,rfl,(n:Int),rfl,by omega,by omega,?_⟩;rw[show((n:Int)).toNat=n from Int.toNat_natCast n];refine wG (λi σ H'=>∃(t:Sf84.Test) (a dx l:Addr) (rs:List Addr) (v3:Option V),σ=[some (.ref R.ra),some (vN n),some (.ref a),v3]/\Moved R.ra H H'/\dw R H' r o/\bI CP H' a (da t) (bA t) dx l rs/\(bA t).length+(n - i)<=5000/\NI (n - i) t=NI n v)
  ⟨v,a,dx,l,rs,none,rfl,.refl,hR,pa,lv,rfl⟩ ?_ ?_
 ·rintro i σ H1 hi ⟨t,a,dx,l,rs,v3,rfl,m1,kr,pa1,l1,e1⟩
  refine⟨_,rfl,a,dx,l,rs,t,rfl,pa1,by show _<=100000;omega,λH2 a2 K8 l2 UI s2 QO=>?_⟩;have g:=Hg t;refine⟨.not_ t,a2,K8,l2,UI,_,rfl,m1.trans (.of s2),kr.same s2,QO,by omega,?_⟩;rw[show n - i=(n - (i+1))+1 by omega]at e1;exact e1
 ·rintro σ H1 ⟨t,a,dx,l,rs,v3,rfl,m1,kr,pa1,l1,e1⟩
  refine⟨_,rfl,?_⟩;rw[Nat.sub_self]at e1;have e2:t=NI n v:=e1;subst e2;show D.rt (.ref a) H1;rw[hQ];exact k.1 _ r rfl H1 a dx l rs m1 kr pa1
theorem Fq(F:bU K "read_test" "read_test" kJ f fd)(C:FC P w K mg CR CT CP CE N fI jD)(hk:4<=k)(hrg:mg "range"=none)
  (mF:mg "read_filter"=some (.ref fF)) (cF:Calls (gq P w CE) P w K mg fF k (UN CR CT CP d)) (mC:mg "read_comparison"=some (.ref fC)) (cC:Calls (gq P w CE) P w K mg fC k (spT CR CT CP BY d)) (mN:mg "not_piece"=some (.ref fN)) (cN:Calls aV P w K mg fN 4 (qw CP)):
  aP P w K mg base (gq P w CE) (k+1) f fd ["reader"] (spT CR CT CP jo d):=by
 refine bU.JA F uc (λvs H Q E h=>?_) (λbG A outer s H vs Q E hr h=>?_)
 ·obtain⟨R,r,o,rfl,_⟩:=h;rfl
 ·obtain⟨R,r,o,rfl,rfl,rfl,hR,ho,hl,ok,kk⟩:=h;have nd:=uc.nd;have jL:dR 1 _:=hr.mono (by omega);have Rr:=hr.mono hk;refine⟨_,ae (aB (i:=1) nd rfl (Or.inl rfl) ay)
   (ae (fi PassesOwn.leaving (aF dg (aD (bT C.D.GZ C.D.R.cl (pv 0) jL aE) rfl) fj (aK _))
    (ae (aU (bT C.D.Pl C.D.R.cl (pv 0) jL aE))
    (ag (lG (i:=1) nd rfl (Or.inl rfl) ay lJ))))
   (ae (a7 (aF dg (aD (bT C.D.GZ C.D.R.cl (pv 0) jL aE) rfl) fj (aK _))
    (ae (aU (bT C.ent C.D.R.cl (pv 0) (hr.mono (by omega)) df))
    (ae (aB (i:=2) nd rfl (Or.inl rfl) (aR cF mF hr df (aa (pv 0) aj)))
    (ag (aU (dj C.lea C.D.R.cl (pv 0) (hr.mono (by omega)) df (aa fj aj))))))
    (ag (aB (i:=2) nd rfl (Or.inl rfl) (aR cC mC hr df (aa (pv 0) aj)))))
   (ae (gF PassesOwn.leaving rfl (vQ rfl hrg (aa (pv 1) aj)) (bR (i:=3) nd rfl (Or.inl rfl)) (ag (aB (i:=2) nd rfl (Or.inl rfl) (aR cN mN Rr aE (aa (pv 2) aj)))))
   (ag (aq (pv 2)))))),?_⟩
  refine eY (λσ H'=>∃(n:Nat) (r':Toks),σ=[some (.ref R.ra),some (vN n),none,none]/\dw R H' r' o/\n+r'.length<=1100/\Sw CP R (DR n (jo R.e d r')) o H' Q E)
   (λ_ H'=>fh R H') ⟨0,r,rfl,hR,?_,?_⟩ ?_ ?_
  ·have:=hR.le;omega
  ·have:DR 0 (jo R.e d r)=jo R.e d r:=by
    unfold DR;cases jo R.e d r<;>rfl
   rw[this];exact kk
  ·rintro σ H1 ⟨n,r',rfl,kr,ln,k1⟩
   have Ab:=kr.ok ok;refine ve C.D hl rfl kr ⟨rfl,_,rfl,?_⟩;rw[CQ V_];by_cases hs:∃p q,r'=(.name 4,p)::q
   ·refine cu (aN ((cU Ab (by decide)).mpr hs)) ?_;obtain⟨p,q,rfl⟩:=hs;rw[NH]at k1;refine iQ hl rfl kr λH2 b2 m2 j_ tk=>?_
    refine⟨_,rfl,_,_,rfl,rfl,?_⟩;have g2:((Sf84.Tok.name 4,p)::q).length=q.length+1:=rfl;refine⟨⟨n+1,q,?_,j_,by omega,k1.move m2⟩,?_⟩
    ·show [some (V.ref R.ra),some (V.int ((n:Int)+1)),none,none]=_;rw[show(n:Int)+1=((n+1:Nat):Int) by omega]
    ·show fh R H2<fh R H1;rw[j_.left,kr.left];omega
   ·refine cx (by rw[aQ (λx=>hs ((cU Ab (by decide)).mp x))];exact az) ?_;refine ve C.D hl rfl kr ⟨rfl,_,rfl,?_⟩;rw[CQ abF];by_cases hb:∃p q,r'=(.sign 0,p)::q
    ·refine cu (aN ((bS Ab (by decide)).mpr hb)) ?_;obtain⟨p,q,rfl⟩:=hb;refine DW (by decide +kernel) rfl kr ⟨R,_,q,o,rfl,rfl,rfl,kr,hl,λhn H2 m2 j_=>?_,λhn H2 a m2=>?_⟩
     ·cases d with
      |zero=>omega
      |succ d=>
       rw[Kb]at k1;refine⟨_,rfl,R,q,o+1,rfl,rfl,rfl,j_,by omega,hl,ok,λv r3 ev H3 a dx l rs m3 l7 pa=>?_,λz ez H3 a m3=>?_⟩
       ·rw[ev]at k1;have gv:=z_ (j_.ok ok) ev;obtain⟨n2,i2,_⟩:=l7.at_;refine⟨_,rfl,R.ra,R.dx,_,rfl,i2,ow _ _ _ (by decide +kernel),R,r3,o,dW 1,?_,rfl,rfl,l7,hl,rM (by decide),λx r4 e4 hc H4 m4 IH=>?_,λhc H4 b m4=>?_⟩
        ·show [V.ref R.ra,V.str ")"]=_;rw[abE];rfl
        ·obtain⟨p2,q2,e3⟩:=(bS (l7.ok ok) (by decide)).mp hc;subst e3;obtain⟨_,rfl⟩:=List.cons.inj e4;have e5:(do let x<-(Except.ok (v,(Sf84.Tok.sign 1,p2)::q2):Except Nat (Sf84.Test×Toks));let t<-Sf84.sign R.e 1 x.2;return (x.1,t):Except Nat (Sf84.Test×Toks))= .ok (v,q2):=by
          show(do let t<-Sf84.sign R.e 1 ((Sf84.Tok.sign 1,p2)::q2);return (v,t):Except Nat (Sf84.Test×Toks))=_;rw[E1];rfl
         rw[e5]at k1;have g1:=gv.len;have g2:=j_.le;exact Ds rfl IH (pa.mv l7 m4) (by omega) (k1.move (m2.trans (m3.trans m4)))
        ·refine k1.2 (Sf84.here R.e r3) ?_ H4 b (m2.trans (m3.trans m4));have e5:(do let x<-(Except.ok (v,r3):Except Nat (Sf84.Test×Toks));let t<-Sf84.sign R.e 1 x.2;return (x.1,t):Except Nat (Sf84.Test×Toks))= .error (Sf84.here R.e r3):=by
          show(do let t<-Sf84.sign R.e 1 r3;return (v,t):Except Nat (Sf84.Test×Toks))=_;rw[E2 (λx=>hc ((bS (l7.ok ok) (by decide)).mpr x))];rfl
         rw[e5];rfl
       ·exact k1.2 z (by rw[ez];rfl) H3 a (m2.trans m3)
     ·have hd:d=0:=by omega
      subst hd;rw[HP]at k1;exact k1.2 p rfl H2 a m2
    ·refine cx (by rw[aQ (λx=>hb ((bS Ab (by decide)).mp x))];exact az) ?_;have GY:isSign 0 0 r'=false:=by
      cases e:isSign 0 0 r' with
      |false=>rfl
      |true=>
       obtain⟨j,p,q,e1,j1,j2⟩:=nX e;exact absurd ⟨p,q,by rw[e1,show j=0 by omega]⟩ hb
     have ec:=QT (e:=R.e) (d:=d) (wB hs) GY;rw[ec]at k1;refine⟨_,rfl,R,r',o,rfl,rfl,rfl,kr,ho,hl,ok,λv r3 ev H3 a dx l rs m3 l7 pa=>?_,λz ez H3 b m3=>k1.2 z (by rw[ez];rfl) H3 b m3⟩;rw[ev]at k1;have gv:=Fg Ab (ec.trans ev);have g1:=gv.len;exact Ds rfl l7 pa (by omega) (k1.move m3)
  ·intro σ H1 Q1 Q2 hq h;refine pV (λv H' hv=>?_) h;obtain⟨y2,b',y3,y4⟩:=hv;exact⟨y2,b',y3,hq _ _ y4⟩
end
section
variable {CR CT CP CE N fI:Addr} {jD:FuncData}
structure TD(P:Program)(w:World)(K:Frag)(mg:Str->Option Value)(CR CT CP CE N fI:Addr)(jD:FuncData):Prop where
 V:VD P w K mg CR CT CP CE N fI jD
 RI:∃f fd,Def K mg "read_filter" iR ["reader"] f fd
 tss:∃f fd,Def K mg "read_tests" jB ["reader"] f fd
 tst:∃f fd,Def K mg "read_test" kJ ["reader"] f fd
 cmp:∃f fd,Def K mg "read_comparison" eV ["reader"] f fd
 Pq:mg "range"=none
 cpc:∃f,mg "comparison_piece"=some (.ref f)/\Calls aV P w K mg f 4 (tZ CP)
 npc:∃f,mg "not_piece"=some (.ref f)/\Calls aV P w K mg f 4 (qw CP)
 apc:∃f,mg "and_piece"=some (.ref f)/\Calls aV P w K mg f 4 (t7 CP .and_)
 rpc:∃f,mg "or_piece"=some (.ref f)/\Calls aV P w K mg f 4 (t7 CP .or_)
 dC:∃a,mg "COMPARISON_SIGNS"=some (.ref a)/\jg K w a (Po 14 6 0)
theorem II(T:TD P w K mg CR CT CP CE N fI jD)(mF:mg "read_filter"=some (.ref fF)){d:Nat}(cF:Calls (gq P w CE) P w K mg fF (4*d+9) (UN CR CT CP d)):Calls (gq P w CE) P w K mg fF (4*d+12) (spT CR CT CP eW d):=by
 obtain⟨f1,fd1,D1⟩:=T.RI;obtain⟨f2,fd2,D2⟩:=T.tss;obtain⟨f3,fd3,D3⟩:=T.tst;obtain⟨f4,fd4,D4⟩:=T.cmp;obtain⟨f5,fd5,D5⟩:=T.V.val;obtain⟨f6,m6,c6⟩:=T.cpc;obtain⟨f7,m7,c7⟩:=T.npc;obtain⟨f8,m8,c8⟩:=T.apc;obtain⟨f9,m9,c9⟩:=T.rpc;obtain⟨a1,n1,k1⟩:=T.dC;have e1:f1=fF:=by
  have:=D1.nm;rw[mF]at this;exact(Value.ref.inj (aO this)).symm
 subst e1;have cV:=LK T.V D5.nm d;have cC:Calls (gq P w CE) P w K mg f4 (4*d+9) (spT CR CT CP BY d):=D4.calls λbase=>sh D4.fn T.V.C (by omega) D5.nm cV m6 c6 n1 k1
 have cT:Calls (gq P w CE) P w K mg f3 (4*d+10) (spT CR CT CP jo d):=D3.calls λbase=>Fq D3.fn T.V.C (by omega) T.Pq mF cF D4.nm cC m7 c7
 have cB:Calls (gq P w CE) P w K mg f2 (4*d+11) (spT CR CT CP pH d):=D2.calls λbase=>B9 D2.fn T.V.C (by omega) D3.nm cT m8 c8
 exact D1.calls λbase=>Ae D1.fn T.V.C (by omega) D2.nm cB m9 c9
theorem Mz(T:TD P w K mg CR CT CP CE N fI jD)(mF:mg "read_filter"=some (.ref fF)):∀d,Calls (gq P w CE) P w K mg fF (4*d+12) (spT CR CT CP eW d)
 |0=>by
  obtain⟨f1,fd1,D1⟩:=T.RI;have e1:f1=fF:=by
   have:=D1.nm;rw[mF]at this;exact(Value.ref.inj (aO this)).symm
  subst e1;exact II T mF (D1.calls λbase=>UP)
 |d+1=>II T mF ((Mz T mF d).mono (by omega))
inductive EM(vs:List V)(H:Hp)(Q:VK)(E:XK):Prop
 |mk (a:Addr) (b:Bytes):vs=[.ref a]->dI H a b->b.length<=1100->((∀t,Sf84.read b= .ok t->∀(H':Hp) (p:Addr) (rs:List Addr),a9 H H'->bC H' p t.compiled rs->t.compiled.length<=2300->Q (.ref p) H'))->((∀p,Sf84.read b= .error p->∀(H':Hp) (a:Addr),a9 H H'->E (.int (p:Nat) 0) (some a) H'))->EM vs H Q E
theorem si(F:bU K "program_of_text" "program_of_text" g_ f fd)(C:FC P w K mg CR CT CP CE N fI jD)(I:tj mg)(pc:iz K mg CP)(M:Makes P w K mg CR 1 (tV CR))(hE:GS mg "TEXT_END" (dS uY))
  (mT:mg "tokens_of"=some (.ref fT)) (cT:Calls (gq P w CE) P w K mg fT 5 (EI CT)) (mF:mg "read_filter"=some (.ref fF)) (cF:Calls (gq P w CE) P w K mg fF 172 (spT CR CT CP eW 40)):
  aP P w K mg base (gq P w CE) 173 f fd ["text"] EM:=by
 refine bU.JA F jO (λvs H Q E h=>?_) (λbG A outer s H vs Q E hr h=>?_)
 ·obtain⟨a,b,rfl,_⟩:=h;rfl
 ·obtain⟨a,b,rfl,hb,Mq,k1,k2⟩:=h;have nd:=jO.nd;refine⟨_,ae (aB (i:=1) nd rfl (Or.inl rfl) (kO M C.D.R.nm (hr.mono (by decide)) (aa (aR cT mT (hr.mono (by decide)) df (aa (pv 0) aj)) aj)))
   (ae (aB (i:=2) nd rfl (Or.inl rfl) (aR cF mF hr df (aa (pv 1) aj)))
   (ae (aU (dj C.only C.D.R.cl (pv 1) (hr.mono (by decide)) df (aa (HJ hE) aj)))
   (ag (aq (bb gi (aD (pv 2) rfl) (aY (aa (jn (aa (cI I.fin) (aa ay aj))) aj))))))),?_⟩
  have et:toks 0 b=Sf84.tokens (b.length+1) 0 b:=rfl;refine⟨_,rfl,a,b,rfl,hb,Mq,?_⟩;cases hl:toks 0 b with
  |error p=>
   intro H1 x s1;refine k2 p ?_ H1 x s1;unfold Sf84.read;rw[<-et,hl];rfl
  |ok l=>
   intro H1 ta as ea s1 tk x dx hx pS fR;have er:=Te b l (et.symm.trans hl);have okl:=qo _ _ _ _ (et.symm.trans hl);have lel:=tL _ _ _ _ (et.symm.trans hl);refine⟨x,dx,_,rfl,af,λH2 h2 kp=>⟨rfl,?_⟩⟩;have s2:a9 H1 H2:=λc u e=>kp c u (by rw[ao (au e hx),ao (au e pS)];exact e) (au e hx)
   have hxn:H x=none:=s1.free hx;have hR:dw ⟨CR,CT,x,dx,ta,l,b.length,as,ea⟩ H2 l 0:=by
    refine⟨⟨0,h2,rfl,bw _⟩,?_⟩;exact⟨s2 _ _ tk.lst,tk.row.same s2,tk.fin.same s2⟩
   have toS:∀{H3:Hp},Moved x H2 H3->a9 H H3:=λm c u e=>m c u (s2 _ _ (s1 _ _ e)) (au e hxn)
   refine⟨_,rfl,⟨CR,CT,x,dx,ta,l,b.length,as,ea⟩,l,0,rfl,rfl,rfl,hR,rfl,by show l.length<=1100;omega,okl,λt r ev H3 a3 XF l3 Yj m3 l7 pa3=>?_,λz ez H3 a3 m3=>?_⟩
   ·have gv:=z_ okl ev;have ev':eW b.length 40 l= .ok (t,r):=ev;rw[ev']at er;have er':Sf84.read b=if r=[]then .ok t else .error (Sf84.here b.length r):=er
    obtain⟨n3,i3,_⟩:=l7.at_;refine⟨_,rfl,x,dx,_,rfl,i3,ow _ _ _ (by decide +kernel),_,r,0,uY,rfl,rfl,rfl,l7,by show l.length<=1100;omega,λhc H4 a4 m4 q4 tk4=>?_,λhc H4 a4 m4=>?_⟩
    ·have hre:r=[]:=(xQ (l7.ok okl)).mp hc;rw[ai hre]at er';have Md:=pa3.mv l7 m4;have gl:=gv.len;refine⟨_,rfl,a3,CP,XF,_,_,rfl,Md.ob,pc.cl,pc.nI,xB _ _,(by show 2<=sizeLine;decide),λt4 ht=>⟨(by show 1<=sizeLine;decide),λq hq=>?_⟩⟩;have s5:=aA (o:=.tup [V.int 8,V.int 0]) ht;have s6:=aA (o:=.lst [V.ref t4]) hq;have c6:=(Md.co.same s5).same s6;have Xr:Yj.length<=Bz:=by rw[pa3.co.len];show _<=100000;omega
     refine⟨l3,q,_,_,rfl,rfl,c6.lst,af,Lx (by simp;omega),λz hz=>?_⟩;have s7:=aA (o:=.lst (Yj.map V.ref++[V.ref t4])) hz;refine k1 t er' _ z (Yj++[t4]) ((((toS (m3.trans m4)).trans s5).trans s6).trans s7) ?_ (by rw[xP,ba];show _+1<=2300;omega);rw[xP];exact bC.cat (c6.same s7) ((bC.one (x:=(8,0)) af (s6 _ _ af)).same s7) af
    ·have hre:¬r=[]:=λe=>hc ((xQ (l7.ok okl)).mpr e)
     rw[ah hre]at er';exact k2 _ er' H4 a4 (toS (m3.trans m4))
   ·have ez':eW b.length 40 l= .error z:=ez;rw[ez']at er;exact k2 z er H3 a3 (toS m3)
end
def La(b:Nat):Nat->Nat->List Nat
 |0,_=>[]
 |k+1,x=>x / b ^ k % b::La b k x
theorem jE(b x:Nat):∀k,(La b k x).length=k
 |0=>rfl
 |k+1=>by show(La b k x).length+1=_;rw[jE b x k]
theorem RW{x:Nat}(hb:0<b):∀k,∀d∈La b k x,d<b
 |0,d,h=>by cases h
 |k+1,d,h=>by
  rcases List.mem_cons.mp h with rfl|h
  ·exact Nat.mod_lt _ hb
  ·exact RW hb k d h
def DE(b x i:Nat):List Nat:=(List.range i).map λj=>x / b ^ j % b
theorem zQ(b x i:Nat):DE b x (i+1)=DE b x i++[x / b ^ i % b]:=by
 unfold DE;rw[List.range_succ,bH];rfl
theorem DD(b x:Nat):∀k,(DE b x k).reverse=La b k x
 |0=>rfl
 |k+1=>by
  rw[zQ,List.reverse_append,DD b x k];rfl
theorem ofNat_lt(h:n<256):(UInt8.ofNat n).toNat=n:=by
 show n % 256=n;exact Nat.mod_eq_of_lt h
theorem Bl(x:Nat):∀k,nums (Sf84.be k x)=La 256 k x
 |0=>rfl
 |k+1=>by
  show(UInt8.ofNat (x / 256 ^ k % 256)).toNat::nums (Sf84.be k x)=_;rw[Bl x k,ofNat_lt (Nat.mod_lt _ (by decide))];rfl
theorem GG(b:Bytes):bV b=(nums b).map vN:=by unfold bV nums;rw[List.map_map];rfl
theorem dH(h:n<=16777216):n<=sizeLine:=by rw[sizeLine_eq];omega
theorem dE(h:n<16777216):n<sizeLine:=by rw[sizeLine_eq];omega
theorem iV{α β:Type}{f:α->β}{l:List α}{y:β}(h:(l.map f)[i]? =some y):∃x,l[i]? =some x/\y=f x:=by
 rw[bO]at h;cases e:l[i]? with
 |none=>rw[e]at h;cases h
 |some x=>rw[e]at h;exact⟨x,rfl,(aO h).symm⟩
theorem eU{α:Type}{l:List α}{x:α}(h:l[i]? =some x):l.take (i+1)=l.take i++[x]:=by
 rw[List.take_add_one,h];rfl
section
def Pa(H:Hp)(Q:VK)(ns:List Nat):Prop:=∀(H':Hp) (l:Addr),a9 H H'->H l=none->H' l=some (.lst (ns.map vN))->Q (.ref l) H'
inductive zq(vs:List V)(H:Hp)(Q:VK)(_E:XK):Prop
 |mk (n b k:Nat):vs=[vN n,vN b,vN k]->0<b->b<=1000->k<=1000->Pa H Q (La b k n)->zq vs H Q _E
theorem qM(F:bU K "digits_of_number" "digits_of_number" gw f fd)(hrg:mg "range"=none)(hli:mg "list"=none)(hrv:mg "reversed"=none):aP P w K mg base aV 1 f fd ["number","base","size"] zq:=by
 refine F.ok jr (λvs H Q E h=>?_) (λbG A outer s H vs Q E hr h=>?_)
 ·obtain⟨n,b,k,rfl,_⟩:=h;rfl
 ·obtain⟨n,b,k,rfl,hb,hb2,hk,q⟩:=h;have nd:=jr.nd;refine⟨_,ae (aB (i:=3) nd rfl (Or.inl rfl) (aY aj))
   (ae (aB (i:=4) nd rfl (Or.inl rfl) (pv 0))
   (ae (gF PassesOwn.never rfl (vQ rfl hrg (aa (pv 2) aj)) (bR (i:=5) nd rfl (Or.inl rfl))
    (ae (aU (lZ PySem.F.plainAttrs_list PySem.F.slot_list_append PySem.F.type_list_append eA (pv 3) (aa (bb vW (pv 4) (pv 1)) aj)))
    (ag (aB (i:=4) nd rfl (Or.inl rfl) (bb Tv (pv 4) (pv 1))))))
   (ag (aq (J8 rfl rfl hli rfl hrv (aa (pv 3) aj)))))),?_⟩
  refine⟨bw _,λd hd=>?_⟩;refine⟨_,rfl,_,rfl,k,rfl,by omega,by omega,?_⟩;refine wG (lo:=0) (n:=(k:Int).toNat) (λi σ H'=>∃v:Option V,σ=[some (vN n),some (vN b),some (vN k),some (.ref d),some (vN (n / b ^ i)),v]/\H' d=some (.lst ((DE b n i).map vN))/\a9 H H')
   ⟨none,by simp only [Nat.pow_zero,Nat.div_one];rfl,af,aA hd⟩ ?_ ?_
  ·rintro i σ H' hi ⟨v,rfl,hl,sm⟩
   have bz:(0:Int)<(b:Int):=by omega
   have JF:i<k:=by simpa using hi
   refine⟨_,rfl,.inl ⟨rfl,_,bp.of hl⟩,_,rfl,_,rfl,_,_,rfl,rfl,bz,d,_,_,rfl,rfl,hl,?_,?_⟩
   ·rw[aH];unfold DE;rw[aH,List.length_range];exact dE (by omega)
   ·refine⟨_,rfl,_,rfl,_,_,rfl,rfl,⟨bz,by omega⟩,?_⟩;refine⟨some (V.int (0+(i:Int))),?_,?_,λc u e=>?_⟩
    ·show [some (vN n),some (vN b),some (vN k),some (V.ref d),some (V.int (((n / b ^ i:Nat):Int) / (b:Int))),_]=_;rw[<-Int.natCast_ediv,Nat.div_div_eq_div_mul,<-Nat.pow_succ]
    ·rw[af,zQ,bH];show some (HO.lst (_++[V.int (((n / b ^ i:Nat):Int) % (b:Int))]))=some (HO.lst (_++[V.int ((n / b ^ i % b:Nat):Int)]));rw[Int.natCast_emod]
    ·rw[ao (au e hd)];exact sm c u e
  ·rintro σ H' ⟨v,rfl,hl,sm⟩
   refine⟨_,rfl,d,_,rfl,bp.of hl,λl oJ=>?_⟩;refine q _ l (sm.trans (aA oJ)) (sm.free oJ) ?_;rw[af,<-List.map_reverse,DD];simp
inductive qA(vs:List V)(H:Hp)(Q:VK)(_E:XK):Prop
 |mk (n k:Nat):vs=[vN n,vN k]->k<=1000->Pa H Q (nums (Sf84.be k n))->qA vs H Q _E
theorem su(F:bU K "bytes_of_number" "bytes_of_number" hU f fd)(hL:GI mg "BYTE_LIMIT" 256)(mD:mg "digits_of_number"=some (.ref fD))(cD:Calls aV P w K mg fD 1 zq):aP P w K mg base aV 2 f fd ["number","size"] qA:=by
 refine F.ok rO (λvs H Q E h=>?_) (λbG A outer s H vs Q E hr h=>?_)
 ·obtain⟨n,k,rfl,_⟩:=h;rfl
 ·obtain⟨n,k,rfl,hk,q⟩:=h;refine⟨_,ag (aq (aR cD mD hr aE (aa (pv 0) (aa (cI hL) (aa (pv 1) aj))))),?_⟩;refine⟨_,rfl,_,rfl,n,256,k,rfl,by decide,by decide,hk,?_⟩;rw[<-Bl];exact q
end
def lK(d:Nat):Nat:=if d<10 then 48+d else 87+d
theorem D_(h:d<16):(Sf84.hexOf d).toNat=lK d:=by
 unfold Sf84.hexOf lK;by_cases q:d<10
 ·rw[ai q];exact ofNat_lt (by omega)
 ·rw[ah q];exact ofNat_lt (by omega)
theorem dB(a b:Bytes):nums (a++b)=nums a++nums b:=by unfold nums;rw[bH]
theorem DP(c:UInt8)(b:Bytes):nums (c::b)=c.toNat::nums b:=rfl
theorem gk(b:Bytes):(nums b).length=b.length:=by unfold nums;rw[aH]
def Eb(c:Nat):List Nat:=(La 16 2 c).map lK
theorem wD(c:UInt8):nums (Sf84.hex2 c)=Eb c.toNat:=by
 have hc:c.toNat<256:=Vh c;show [(Sf84.hexOf (c.toNat / 16)).toNat,(Sf84.hexOf (c.toNat % 16)).toNat]=[lK (c.toNat / 16 ^ 1 % 16),lK (c.toNat / 16 ^ 0 % 16)];rw[D_ (by omega),D_ (by omega),Nat.pow_one,Nat.pow_zero,Nat.div_one,Nat.mod_eq_of_lt (show c.toNat / 16<16 by omega)]
theorem J6(h:p<65536):nums ((Sf84.be 2 p).flatMap Sf84.hex2)=(La 16 4 p).map lK:=by
 have e:Sf84.be 2 p=[UInt8.ofNat (p / 256 % 256),UInt8.ofNat (p / 1 % 256)]:=rfl;rw[e];show nums (Sf84.hex2 (UInt8.ofNat (p / 256 % 256))++(Sf84.hex2 (UInt8.ofNat (p / 1 % 256))++[]))=[lK (p / 4096 % 16),lK (p / 256 % 16),lK (p / 16 % 16),lK (p / 1 % 16)];rw[dB,dB,wD,wD,ofNat_lt (by omega),ofNat_lt (by omega)];show [lK (p / 256 % 256 / 16 % 16),lK (p / 256 % 256 / 1 % 16),lK (p / 1 % 256 / 16 % 16),lK (p / 1 % 256 / 1 % 16)]=_;rw[show p / 256 % 256 / 16 % 16=p / 4096 % 16 by omega,show p / 256 % 256 / 1 % 16=p / 256 % 16 by omega,show p / 1 % 256 / 16 % 16=p / 16 % 16 by omega,show p / 1 % 256 / 1 % 16=p / 1 % 16 by omega]
def rL(c:Nat):Nat:=if 32<=c/\c<=126 then c else 46
def oF(b:Bytes):List Nat:=b.flatMap λc=>32::Eb c.toNat
theorem Iu:∀b:Bytes,nums (b.flatMap λ(c:UInt8)=>32::Sf84.hex2 c)=oF b
 |[]=>rfl
 |c::b=>by
  show nums ((32::Sf84.hex2 c)++b.flatMap λ(c:UInt8)=>32::Sf84.hex2 c)=(32::Eb c.toNat)++oF b;rw[dB,Iu b,DP,wD];rfl
theorem Ql(k:Nat):nums (List.replicate k 32)=List.replicate k 32:=by unfold nums;rw[List.map_replicate];rfl
theorem JU(b:Bytes):nums (b.map λ(c:UInt8)=>if 32<=c.toNat/\c.toNat<=126 then c else 46)=b.map λc=>rL c.toNat:=by
 unfold nums;rw[List.map_map];apply List.map_congr_left;intro c _;show(if 32<=c.toNat/\c.toNat<=126 then c else 46).toNat=rL c.toNat;unfold rL;by_cases q:32<=c.toNat/\c.toNat<=126
 ·rw[ai q,ai q]
 ·rw[ah q,ah q];rfl
theorem DX(b:Bytes)(h:p<65536):nums (Sf84.line p b)=(((((La 16 4 p).map lK++[32])++oF b)++List.replicate (3*(16 - b.length)) 32)++[32,32])++b.map (λc=>rL c.toNat)++[10]:=by
 unfold Sf84.line;rw[dB,J6 h,List.cons_append,DP,dB,Iu,dB,Ql,dB,dB,JU];simp only [dF,List.cons_append,List.nil_append];rfl
theorem j3:∀b:Bytes,(oF b).length=3*b.length
 |[]=>rfl
 |c::b=>by
  show((32::Eb c.toNat)++oF b).length=_;rw[ba,j3 b];show 3+3*b.length=3*(b.length+1);omega
theorem NN(b:Bytes)(c:UInt8):oF (b++[c])=oF b++(32::Eb c.toNat):=by
 unfold oF;rw[List.flatMap_append];simp
def chunk(b:Bytes)(j:Nat):Bytes:=(b.drop (16*j)).take 16
def lM(b:Bytes)(p i:Nat):Bytes:=(List.range i).flatMap λj=>Sf84.line (p+16*j) (chunk b j)
theorem xO(b:Bytes)(p i:Nat):lM b p (i+1)=lM b p i++Sf84.line (p+16*i) (chunk b i):=by
 unfold lM;rw[List.range_succ,List.flatMap_append];simp
theorem F8(b:Bytes)(p i:Nat):lM b p (i+1)=Sf84.line p (b.take 16)++lM (b.drop 16) (p+16) i:=by
 unfold lM;rw[List.range_succ_eq_map,List.flatMap_cons,List.flatMap_map];have e:(λj=>Sf84.line (p+16*(j+1)) (chunk b (j+1)))=λj=>Sf84.line (p+16+16*j) (chunk (b.drop 16) j):=by
  funext j
  unfold chunk;rw[List.drop_drop,show p+16*(j+1)=p+16+16*j by omega,show 16*(j+1)=16+16*j by omega]
 show Sf84.line (p+16*0) (chunk b 0)++(List.range i).flatMap (λj=>Sf84.line (p+16*(j+1)) (chunk b (j+1)))=_;rw[e];rfl
theorem wJ:∀(f p:Nat) (b:Bytes),b.length<f->Sf84.dumped f p b=lM b p ((b.length+15) / 16)
 |0,_,_,h=>absurd h (Nat.not_lt_zero _)
 |f+1,p,b,h=>by
  show(if b=[]then []else Sf84.line p (b.take 16)++Sf84.dumped f (p+16) (b.drop 16))=_;by_cases q:b=[]
  ·rw[ai q,q];rfl
  ·rw[ah q];have hl:0<b.length:=List.length_pos_iff.mpr q;rw[wJ f (p+16) (b.drop 16) (by rw[a_];omega)];have e:(b.length+15) / 16=((b.drop 16).length+15) / 16+1:=by rw[a_];omega
   rw[e,F8]
theorem chunk_len(b:Bytes)(j:Nat):(chunk b j).length<=16:=by unfold chunk;rw[bE];omega
theorem Iz{b:Bytes}(h:b.length<=16)(hp:p<65536):(Sf84.line p b).length<=100:=by
 rw[<-gk,DX b hp];simp only [ba,aH,jE,j3,jx,di,List.length_nil];omega
theorem sP:∀{i:Nat},16*i<=65536->(lM b 0 i).length<=100*i
 |0,_=>by unfold lM;simp
 |i+1,h=>by
  rw[xO,ba];have h1:=sP (b:=b) (i:=i) (by omega);have h2:=Iz (p:=0+16*i) (chunk_len b i) (by omega);omega
theorem MJ(xs:List V)(i n:Nat):d4 xs (some (i:Int)) (some ((i:Int)+(n:Int)))=(xs.drop i).take n:=by
 have e:(i:Int)+(n:Int)=((i+n:Nat):Int):=by omega
 unfold d4;rw[e,HT.ia,HT.ia];by_cases h:i<=xs.length
 ·rw[Nat.min_eq_left h];by_cases h2:i+n<=xs.length
  ·rw[Nat.min_eq_left h2,show i+n - i=n by omega]
  ·rw[Nat.min_eq_right (by omega),eD (by rw[a_];omega),eD (by rw[a_];omega)]
 ·rw[Nat.min_eq_right (by omega),Nat.min_eq_right (by omega),List.drop_eq_nil_of_le (aM _),List.drop_eq_nil_of_le (by omega),List.take_nil,List.take_nil]
theorem R_(b:Bytes)(i n:Nat):((bV b).drop i).take n=bV ((b.drop i).take n):=by unfold bV;rw[<-List.map_drop,<-List.map_take]
theorem chT{a c:Int}{Q:Bool->Hp->Prop}(h:Q (decide (a<=b)&&decide (b<=c)) H):zS (λi j=>.bl (decide (i<=j))) (.int a) (.int b) H λz H=>∃k,z= .bl k/\if k=true then zS (λi j=>.bl (decide (i<=j))) (.int b) (.int c) H (Z5 Q)else Z5 Q (.bl false) H:=by
 refine⟨_,_,rfl,rfl,_,rfl,?_⟩;cases e:decide (a<=b)with
 |true=>rw[e,Bool.true_and]at h;exact cu rfl ⟨_,_,rfl,rfl,_,rfl,h⟩
 |false=>rw[e,Bool.false_and]at h;exact cx az ⟨_,rfl,h⟩
theorem chE{a c:Int}(h:Q (.bl (decide (a<=b)&&decide (b<c))) H):zS (λi j=>.bl (decide (i<=j))) (.int a) (.int b) H λz H=>∃k,z= .bl k/\if k=true then zS (λi j=>.bl (decide (i<j))) (.int b) (.int c) H Q else Q (.bl false) H:=by
 refine⟨_,_,rfl,rfl,_,rfl,?_⟩;cases e:decide (a<=b)with
 |true=>rw[e,Bool.true_and]at h;exact cu rfl ⟨_,_,rfl,rfl,h⟩
 |false=>rw[e,Bool.false_and]at h;exact cx az h
theorem aci{a c:Int}(h:Q (.bl (decide (a<=b)&&decide (b<=c))) H):zS (λi j=>.bl (decide (i<=j))) (.int a) (.int b) H λz H=>∃k,z= .bl k/\if k=true then zS (λi j=>.bl (decide (i<=j))) (.int b) (.int c) H Q else Q (.bl false) H:=by
 refine⟨_,_,rfl,rfl,_,rfl,?_⟩;cases e:decide (a<=b)with
 |true=>rw[e,Bool.true_and]at h;exact cu rfl ⟨_,_,rfl,rfl,h⟩
 |false=>rw[e,Bool.false_and]at h;exact cx az h
section
variable {X:Cx} {o e:Expr} {to te:TE} {apos iu:Pos}
theorem DM(ho:PE X o to)(he:PE X e te)(hb:attributeBase o "append" X.env (eval o X.env)=eval o X.env:=by rfl)
  (Rx:((backTo iu (starEach [e] X.env)).all (λx=> !x.1)&&(backToKw iu (keywordEach [] X.env)).all (λx=>x.1.isSome)&&decide ([e].length+([]:List Keyword).length+(if([]:List Keyword).isEmpty then 0 else 1)<30))=true:=by rfl)
  (jd:(apos.endLine==iu.line)=true:=by rfl) (hs:starEach [e] X.env=(false,eval e X.env)::starEach [] X.env:=by rfl):PE X (.Call (.Attribute o "append" apos) [e] [] iu) (tBM X.K "list" qD to (d5 te gj)):=
 lZ PySem.F.plainAttrs_list PySem.F.slot_list_append PySem.F.type_list_append eA ho (aa he aj hs) hb Rx jd hs
theorem pF(ho:PE X o to)(he:PE X e te)(hb:attributeBase o "extend" X.env (eval o X.env)=eval o X.env:=by rfl)
  (Rx:((backTo iu (starEach [e] X.env)).all (λx=> !x.1)&&(backToKw iu (keywordEach [] X.env)).all (λx=>x.1.isSome)&&decide ([e].length+([]:List Keyword).length+(if([]:List Keyword).isEmpty then 0 else 1)<30))=true:=by rfl)
  (jd:(apos.endLine==iu.line)=true:=by rfl) (hs:starEach [e] X.env=(false,eval e X.env)::starEach [] X.env:=by rfl):PE X (.Call (.Attribute o "extend" apos) [e] [] iu) (tBM X.K "list" E9 to (d5 te gj)):=
 lZ PySem.F.plainAttrs_list PySem.F.slot_list_extend PySem.F.type_list_extend NM ho (aa he aj hs) hb Rx jd hs
theorem dX{p:Pos}(hm:X.mg "len"=none)(he:PE X e te)(hg:Gl X "len":=by rfl)(hs:starEach [e] X.env=(false,eval e X.env)::starEach [] X.env:=by rfl):
  PE X (.Call (.Name "len" p) [e] [] pos) (tCB (λxs H Q=>∃p ys,xs=[.ref p]/\(bp X.K H p ys\/rB X.K H p ys)/\Q (.int ys.length) H) (d5 te gj)):=
 cb dv hg hm PySem.boot_len (aa he aj hs) (by decide) (by decide) hs rfl
end
theorem bY{o:HO}(s:a9 H H')(h:H l=none):a9 H (upd H' l o):=λc u e=>by rw[ao (au e h)];exact s c u e
def UC:Str:="0123456789abcdef"
theorem WB:∀d<16,UC.cps.toList[d]? =some (lK d):=by decide +kernel
theorem jQ:ax ["number","size","digit"] ["number","size"] (ak iG):=⟨rfl,rfl,rfl,by decide +kernel,rfl,by decide +kernel,by decide +kernel⟩
section
inductive yB(vs:List V)(H:Hp)(Q:VK)(_E:XK):Prop
 |mk (c:Nat):vs=[vN c]->Q (vN (rL c)) H->yB vs H Q _E
theorem QY(F:bU K "shown" "shown" E8 f fd)(hB:GI mg "BLANK" 32)(hL:GI mg "LAST_SHOWN" 126)(hP:GI mg "POINT_BYTE" 46):aP P w K mg base aV 1 f fd ["byte"] yB:=by
 refine F.ok Qh (λvs H Q E h=>?_) (λbG A outer s H vs Q E hr h=>?_)
 ·obtain⟨c,rfl,_⟩:=h;rfl
 ·obtain⟨c,rfl,q⟩:=h;refine⟨_,ag (aq (dA (ij f_ f_ (cI hB) (pv 0) (cI hL)) (pv 0) (cI hP))),?_⟩;refine⟨_,rfl,chT ?_⟩;unfold rL at q;by_cases hc:32<=c/\c<=126
  ·rw[ai hc]at q;refine cu ?_ ⟨_,rfl,q⟩;rw[aN (by omega),aN (by omega)];rfl
  ·rw[ah hc]at q;refine cx (λz=>hc ?_) q;rw[bj,aI,aI]at z;omega
inductive LR(vs:List V)(H:Hp)(Q:VK)(_E:XK):Prop
 |mk (n k:Nat):vs=[vN n,vN k]->k<=1000->Pa H Q ((La 16 k n).map lK)->LR vs H Q _E
theorem uA(F:bU K "hexadecimal_of" "hexadecimal_of" iG f fd)(hX:GS mg "HEXADECIMAL" UC)(Wt:mg "ord"=none)(mD:mg "digits_of_number"=some (.ref fD))(cD:Calls aV P w K mg fD 1 zq):aP P w K mg base aV 2 f fd ["number","size"] LR:=by
 refine F.ok jQ (λvs H Q E h=>?_) (λbG A outer s H vs Q E hr h=>?_)
 ·obtain⟨n,k,rfl,_⟩:=h;rfl
 ·obtain⟨n,k,rfl,hk,q⟩:=h;have nd:=jQ.nd;refine⟨_,ag (aq (uw (own:=[("digit",2)]) rfl nd (dG (aR cD mD hr aE (aa (pv 0) (aa ay (aa (pv 1) aj))))) (eO rfl) (λs H C cl fp=>bR (i:=2) nd rfl (Or.inl rfl)) (λs H C cl fp=>iT)
   (λs H C cl fp=>cb Jm (by rfl) Wt PyProof.Rows.boot_ord (aa (bu FU (HJ hX) (pv 2) (λ_ _=>rfl)) aj)))),?_⟩
  refine⟨_,rfl,_,rfl,n,16,k,rfl,by decide,by decide,hk,λH1 l s1 Zk hl=>?_⟩;refine⟨l,rfl,⟨_,bp.of hl⟩,λD hD=>nV (K:=K) (a:=l) (xs:=(La 16 k n).map vN) (λi H'=>H' D=some (.lst ((((La 16 k n).take i).map lK).map vN))/\a9 H1 H')
   ⟨af,aA hD⟩ (λi H' _ ⟨_,s2⟩=>bp.of (s2 _ _ hl)) ?_ ?_⟩
  ·rintro i x H2 hi ⟨oJ,s2⟩
   obtain⟨d,hd,rfl⟩:=iV hi;have abY:d<16:=RW (by decide) k d (d7 hd);refine⟨rfl,rJ ?_⟩;refine⟨_,rfl,UC,(d:Int),lK d,rfl,rfl,(by decide +kernel),bW (WB d abY),?_⟩;refine⟨_,rfl,rfl,_,oJ,?_,?_,bY s2 hD⟩
   ·rw[aH,aH,bE,jE];exact dE (by omega)
   ·rw[af,eU hd,bH,bH];rfl
  ·rintro H2 ⟨oJ,s2⟩
   rw[aH,List.take_length]at oJ;exact q H2 D (s1.trans s2) (s1.free hD) oJ
end
def NZ(p:Nat):List Nat:=(La 16 4 p).map lK++[32]
theorem uO(p:Nat):(NZ p).length=5:=by unfold NZ;rw[ba,aH,jE];rfl
section
structure Sl(mg:Str->Option Value):Prop where
 lb:GI mg "LINE_BYTES" 16
 pd:GI mg "PLACE_DIGITS" 4
 bd:GI mg "BYTE_DIGITS" 2
 bl:GI mg "BLANK" 32
 lf:GI mg "LINE_FEED" 10
 len:mg "len"=none
 Pq:mg "range"=none
inductive ER(vs:List V)(H:Hp)(Q:VK)(_E:XK):Prop
 |mk (p:Nat) (a:Addr) (b:Bytes):vs=[vN p,.ref a]->p<65536->dI H a b->b.length<=16->Pa H Q (nums (Sf84.line p b))->ER vs H Q _E
theorem Kf(F:bU K "line_of" "line_of" vH f fd)(C:Sl mg)(mH:mg "hexadecimal_of"=some (.ref fH))(cH:Calls aV P w K mg fH 2 LR)(mS:mg "shown"=some (.ref fS))(cS:Calls aV P w K mg fS 1 yB):aP P w K mg base aV 3 f fd ["place","row"] ER:=by
 refine F.ok zx (λvs H Q E h=>?_) (λbG A outer s H vs Q E hr h=>?_)
 ·obtain⟨p,a,b,rfl,_⟩:=h;rfl
 ·obtain⟨p,a,b,rfl,hp,hb,Mq,q⟩:=h;have nd:=zx.nd;refine⟨_,ae (aB (i:=2) nd rfl (Or.inl rfl) (bb gi (aR cH mH hr aE (aa (pv 0) (aa (cI C.pd) aj))) (aY (aa (cI C.bl) aj))))
   (ae (gF PassesOwn.never rfl (dG (pv 1)) (bR (i:=3) nd rfl (Or.inl rfl))
    (ae (aU (DM (pv 2) (cI C.bl))) (ag (aU (pF (pv 2) (aR cH mH hr aE (aa (pv 3) (aa (cI C.bd) aj))))))))
   (ae (gF PassesOwn.never rfl (Nm rfl C.Pq (aa (dX C.len (pv 1)) (aa (cI C.lb) aj))) (bR (i:=4) nd rfl (Or.inl rfl))
    (ag (aU (pF (pv 2) (aY (aa (cI C.bl) (aa (cI C.bl) (aa (cI C.bl) aj))))))))
   (ae (aU (pF (pv 2) (aY (aa (cI C.bl) (aa (cI C.bl) aj)))))
   (ae (aU (pF (pv 2) (uw (own:=[("byte",3)]) rfl nd (dG (pv 1)) (eO rfl) (λs H C cl fp=>bR (i:=3) nd rfl (Or.inl rfl)) (λs H C cl fp=>iT) (λs H C cl fp=>aR cS mS (hr.mono (by decide)) aE (aa (pv 3) aj)))))
   (ae (aU (DM (pv 2) (cI C.lf))) (ag (aq (pv 2)))))))),?_⟩
  refine⟨_,rfl,p,4,rfl,by decide,λH1 l s1 Zk hl=>?_⟩;refine⟨(by show 1<=sizeLine;decide),λm hm=>?_⟩;have s2:=s1.trans (aA (o:=.lst [V.int 32]) hm);refine⟨l,m,_,_,rfl,rfl,aA hm _ _ hl,af,by simp only [aH,jE,di,List.length_nil];exact dH (by omega),λz hz=>?_⟩;have Wm:H z=none:=s2.free hz;have s3:=s2.trans (aA (o:=.lst (((La 16 4 p).map lK).map vN++[V.int 32])) hz);refine⟨_,rfl,a,rfl,⟨_,bp.of (s3 _ _ hb)⟩,je (K:=K) (a:=a) (xs:=bV b) (λi σ H'=>∃v:Option V,σ=[some (vN p),some (.ref a),some (.ref z),v,none]/\H' z=some (.lst ((NZ p++oF (b.take i)).map vN))/\a9 H H')
   ⟨none,rfl,?_,s3⟩ (λi σ H' _ ⟨_,_,_,s4⟩=>bp.of (s4 _ _ hb)) ?_ ?_⟩
  ·rw[af];unfold NZ oF;simp
  ·rintro i y σ H4 hi ⟨v,rfl,h4,s4⟩
   obtain⟨c,hc,rfl⟩:=iV hi;have hib:i<b.length:=(List.getElem?_eq_some_iff.mp hc).1;have hlen:(NZ p++oF (b.take i)).length<=60:=by rw[ba,uO,j3,bE];omega
   refine⟨_,rfl,.inl ⟨rfl,_,bp.of h4⟩,z,_,_,rfl,rfl,h4,(by rw[aH];exact dE (by omega)),?_⟩;have h5:upd H4 z (.lst ((NZ p++oF (b.take i)).map vN++[V.int 32])) z=some (.lst ((NZ p++oF (b.take i)).map vN++[V.int 32])):=af;refine⟨_,rfl,.inl ⟨rfl,_,bp.of h5⟩,_,rfl,c.toNat,2,rfl,by decide,λH6 l6 s6 _ hl6=>?_⟩;refine⟨z,_,_,_,rfl,rfl,(s6 _ _ h5),hl6,(by simp only [ba,aH,jE,di,List.length_nil]at hlen ⊢;exact dH (by omega)),?_⟩;refine⟨some (vN c.toNat),rfl,?_,bY (λc u e=>s6 _ _ (bY s4 Wm _ _ e)) Wm⟩;rw[af,eU hc,NN];simp[Eb]
  ·rintro σ H4 ⟨v,rfl,h4,s4⟩
   rw[dq,List.take_length]at h4;refine⟨_,rfl,a,_,rfl,.inl (bp.of (s4 _ _ hb)),_,_,rfl,⟨by omega,by rw[dq];omega,by decide,by decide⟩,?_⟩;rw[dq];refine wG (n:=((16:Int) - (b.length:Int)).toNat) (λi σ H'=>∃v4:Option V,σ=[some (vN p),some (.ref a),some (.ref z),v,v4]/\H' z=some (.lst ((NZ p++oF b++List.replicate (3*i) 32).map vN))/\a9 H H') ⟨none,rfl,by simpa using h4,s4⟩ ?_ ?_
   ·rintro i σ H5 hi ⟨v4,rfl,h5,s5⟩
    refine⟨_,rfl,.inl ⟨rfl,_,bp.of h5⟩,(by show 3<=sizeLine;decide),λm2 Zf=>?_⟩;refine⟨z,_,_,_,rfl,rfl,(aA Zf _ _ h5),af,(by simp only [ba,aH,uO,j3,jx,di,List.length_nil];exact dH (by omega)),?_⟩;refine⟨_,rfl,?_,bY (s5.trans (aA Zf)) Wm⟩;rw[af,show 3*(i+1)=3*i+3 by omega,<-List.replicate_append_replicate];simp only [bH,dF];rfl
   ·rintro σ H5 ⟨v4,rfl,h5,s5⟩
    have en:((16:Int) - (b.length:Int)).toNat=16 - b.length:=by omega
    rw[en]at h5;refine⟨_,rfl,.inl ⟨rfl,_,bp.of h5⟩,(by show 2<=sizeLine;decide),λm2 Zf=>?_⟩;refine⟨z,_,_,_,rfl,rfl,(aA Zf _ _ h5),af,(by simp only [ba,aH,uO,j3,jx,di,List.length_nil];exact dH (by omega)),?_⟩;have s6:=bY (o:=.lst ((NZ p++oF b++List.replicate (3*(16 - b.length)) 32).map vN++[V.int 32,V.int 32])) (s5.trans (aA (o:=.lst [V.int 32,V.int 32]) Zf)) Wm;have h6:upd (upd H5 m2 (.lst [V.int 32,V.int 32])) z (.lst ((NZ p++oF b++List.replicate (3*(16 - b.length)) 32).map vN++[V.int 32,V.int 32])) z=some (.lst ((NZ p++oF b++List.replicate (3*(16 - b.length)) 32).map vN++[V.int 32,V.int 32])):=af;generalize upd (upd H5 m2 (.lst [V.int 32,V.int 32])) z (.lst ((NZ p++oF b++List.replicate (3*(16 - b.length)) 32).map vN++[V.int 32,V.int 32]))=H6 at h6 s6;refine⟨_,rfl,.inl ⟨rfl,_,bp.of h6⟩,_,rfl,a,rfl,⟨_,bp.of (s6 _ _ hb)⟩,λD hD=>nV (K:=K) (a:=a) (xs:=bV b) (λi H'=>H' D=some (.lst ((b.take i).map λc=>vN (rL c.toNat)))/\a9 H6 H')
     ⟨af,aA hD⟩ (λi H' _ ⟨_,s7⟩=>bp.of (s7 _ _ (s6 _ _ hb))) ?_ ?_⟩
    ·rintro i x H7 hi ⟨hD7,s7⟩
     obtain⟨c,hc,rfl⟩:=iV hi;refine⟨rfl,rJ ?_⟩;refine⟨_,rfl,c.toNat,rfl,_,hD7,?_,?_,bY s7 hD⟩
     ·rw[aH,bE];exact dE (by omega)
     ·rw[af,eU hc,bH];rfl
    ·rintro H7 ⟨hD7,s7⟩
     rw[dq,List.take_length]at hD7;have h7:=s7 _ _ h6;refine⟨z,_,_,_,rfl,rfl,h7,hD7,(by simp only [ba,aH,uO,j3,jx,di,List.length_nil];exact dH (by omega)),?_⟩;refine⟨_,rfl,.inl ⟨rfl,_,bp.of af⟩,z,_,_,rfl,rfl,af,(by simp only [ba,aH,uO,j3,jx,di,List.length_nil];exact dE (by omega)),?_⟩;refine⟨_,rfl,q _ z (bY (bY (s6.trans s7) Wm) Wm) Wm ?_⟩;rw[af,DX b hp];simp[NZ]
end
theorem LY{c:Nat}(hc:0<c)(Ue:c<=1000)(hn:n<=100000):RgC 0 (n:Int) (c:Int) ((n+(c - 1)) / c):=by
 have hs:Builtin.Range.rangeSize 0 (n:Int) (c:Int)=(((n+(c - 1)) / c:Nat):Int):=by
  rw[PyProof.Rows.rangeSize_pos (by omega) (by omega),Int.natCast_ediv]
  congr 1
  omega
 have hle:(n+(c - 1)) / c<=n+c:=a8 (Nat.div_le_self _ _) (by omega);have h0:(0:Int)<=(((n+(c - 1)) / c:Nat):Int):=Int.natCast_nonneg _;generalize (n+(c - 1)) / c=m at hs hle h0 ⊢;refine⟨by omega,by omega,?_,hs⟩;unfold Builtin.Range.small;rw[hs];simp only [Builtin.Range.rangeFitsLong,bj,Bool.or_eq_true,decide_eq_true_eq,beq_iff_eq,show(c:Int)>0 by omega,if_true];omega
section
def kg(b:Bytes):Bytes:=Sf84.dumped (b.length+1) 0 b
theorem K9{b:Bytes}(h:b.length<=1600):(kg b).length<=20000:=by
 unfold kg;rw[wJ _ _ _ (Nat.lt_succ_self _)];have:=sP (b:=b) (i:=(b.length+15) / 16) (by omega);omega
inductive EX(vs:List V)(H:Hp)(Q:VK)(_E:XK):Prop
 |mk (a:Addr) (b:Bytes):vs=[.ref a]->dI H a b->b.length<=1600->Pa H Q (nums (kg b))->EX vs H Q _E
theorem Kl(F:bU K "dump_of" "dump_of" vM f fd)(C:Sl mg)(mL:mg "line_of"=some (.ref fL))(cL:Calls aV P w K mg fL 3 ER):aP P w K mg base aV 4 f fd ["row"] EX:=by
 refine F.ok zC (λvs H Q E h=>?_) (λbG A outer s H vs Q E hr h=>?_)
 ·obtain⟨a,b,rfl,_⟩:=h;rfl
 ·obtain⟨a,b,rfl,hb,Mq,q⟩:=h;have nd:=zC.nd;refine⟨_,ae (aB (i:=1) nd rfl (Or.inl rfl) (aY aj))
   (ae (gF PassesOwn.never rfl (DI rfl C.Pq (aa ay (aa (dX C.len (pv 0)) (aa (cI C.lb) aj)))) (bR (i:=2) nd rfl (Or.inl rfl))
    (ag (aU (pF (pv 1) (aR cL mL hr aE (aa (pv 2) (aa (de fw (pv 0) (bQ (pv 2)) (bQ (bb ck (pv 2) (cI C.lb)))) aj)))))))
   (ag (aq (pv 1)))),?_⟩
  refine⟨bw _,λd hd=>?_⟩;have s1:=aA (o:=.lst []) hd;refine⟨_,rfl,a,_,rfl,.inl (bp.of (s1 _ _ hb)),_,_,_,_,rfl,by rw[dq];exact LY (c:=16) (by decide) (by decide) (by omega),?_⟩;refine KU (λi σ H'=>∃v:Option V,σ=[some (.ref a),some (.ref d),v]/\H' d=some (.lst ((nums (lM b 0 i)).map vN))/\a9 H H') ⟨none,rfl,af,s1⟩ ?_ ?_
  ·rintro i σ H2 hi ⟨v,rfl,h2,s2⟩
   have JF:16*i<b.length:=by
    have:i<(b.length+(16 - 1)) / 16:=hi;omega
   have ez:(0:Int)+(i:Nat)*16=((16*i:Nat):Int):=by omega
   rw[ez];refine⟨_,rfl,.inl ⟨rfl,_,bp.of h2⟩,_,rfl,_,rfl,_,rfl,_,rfl,_,rfl,_,_,rfl,rfl,_,rfl,a,_,rfl,bp.of (s2 _ _ hb),λm hm=>?_⟩;have s3:=aA (o:=.lst (d4 (bV b) (some ((16*i:Nat):Int)) (some (((16*i:Nat):Int)+16)))) hm;refine⟨16*i,m,chunk b i,rfl,by omega,?_,chunk_len b i,λH4 l s4 _ hl=>?_⟩
   ·show upd H2 m _ m=_;rw[af];show some (HO.lst (d4 (bV b) (some ((16*i:Nat):Int)) (some (((16*i:Nat):Int)+((16:Nat):Int)))))=_;rw[MJ,R_];rfl
   ·have h4:=s4 _ _ (s3 _ _ h2);have l1:=sP (b:=b) (i:=i) (by omega);have l2:=Iz (p:=16*i) (chunk_len b i) (by omega);refine⟨d,l,_,_,rfl,rfl,h4,hl,by rw[aH,aH,gk,gk];exact dH (by omega),?_⟩;refine⟨_,rfl,?_,bY ((s2.trans s3).trans s4) hd⟩;rw[af,xO,dB,bH,Nat.zero_add]
  ·rintro σ H2 ⟨v,rfl,h2,s2⟩
   refine⟨_,rfl,q H2 d s2 hd ?_⟩;unfold kg;rw[wJ _ _ _ (Nat.lt_succ_self _)];exact h2
end
def WL:List Str:=["number","time","way","length","kept"]
theorem uV:WL.Nodup:=by decide +kernel
def SI(n t y l k:V):List (Str×V):=WL.zip [n,t,y,l,k]
theorem xK(n t y l k:V):(SI n t y l k).lookup ("number":Str)=some n:=bM (i:=0) uV rfl rfl
theorem Mw(n t y l k:V):(SI n t y l k).lookup ("time":Str)=some t:=bM (i:=1) uV rfl rfl
theorem Mv(n t y l k:V):(SI n t y l k).lookup ("way":Str)=some y:=bM (i:=2) uV rfl rfl
theorem Mx(n t y l k:V):(SI n t y l k).lookup ("length":Str)=some l:=bM (i:=3) uV rfl rfl
theorem rp(n t y l k:V):(SI n t y l k).lookup ("kept":Str)=some k:=bM (i:=4) uV rfl rfl
theorem Ey{ns:List Str}{vs:List V}{m:Str}(h:m ∉ ns):(ns.zip vs).lookup m=none:=by
 induction ns generalizing vs with
 |nil=>rfl
 |cons n ns ih=>
  cases vs with
  |nil=>rfl
  |cons v vs=>
   have hn:(m==n)=false:=beq_eq_false_iff_ne.mpr λq=>h (by rw[q];exact bB)
   rw[List.zip_cons_cons,List.lookup_cons,hn];exact ih λq=>h (aS _ q)
structure fo(K:Frag)(mg:Str->Option Value)(C:Addr):Prop where
 cl:G0 K C
 nN:b_ K C "number"
 nT:b_ K C "time"
 nW:b_ K C "way"
 nL:b_ K C "length"
 nK:b_ K C "kept"
 nm:mg "Frame"=some (.ref C)
structure kS(C:Addr)(H:Hp)(a ka:Addr)(k:Sf84.Kept):Prop where
 ob:∃dx,H a=some (.ins C dx (SI (vN k.id) (vN k.time) (vN k.way) (vN k.long) (.ref ka)))
 C4:dI H ka k.bytes
theorem kS.same{k:Sf84.Kept}(h:kS C H a ka k)(s:a9 H H'):kS C H' a ka k:=by
 obtain⟨⟨dx,e⟩,b⟩:=h;exact⟨⟨dx,s _ _ e⟩,s _ _ b⟩
section
inductive jM(C:Addr)(vs:List V)(H:Hp)(Q:VK)(_E:XK):Prop
 |mk (a dx:Addr) (n t y l k:V):vs=[.ref a,n,t,y,l,k]->H a=some (.ins C dx [])->(∀H':Hp,H' a=some (.ins C dx (SI n t y l k))->(∀b u,H b=some u->b≠a->H' b=some u)->Q .dt H')->jM C vs H Q _E
theorem Cm(F:bU K "__init__" "Frame.__init__" ni f fd)(T:fo K mg C):aP P w K mg base aV 1 f fd ["self","number","time","way","length","kept"] (jM C):=by
 refine F.ok BR (λvs H Q E h=>?_) (λbG A outer s H vs Q E hr h=>?_)
 ·obtain⟨a,dx,n,t,y,l,k,rfl,_⟩:=h;rfl
 ·obtain⟨a,dx,n,t,y,l,k,rfl,hp,q⟩:=h;refine⟨_,ae (cv (pv 0) (pv 1) rfl) (ae (cv (pv 0) (pv 2) rfl) (ae (cv (pv 0) (pv 3) rfl) (ae (cv (pv 0) (pv 4) rfl) (ag (cv (pv 0) (pv 5) rfl))))),?_⟩;refine⟨_,rfl,_,rfl,a,C,dx,[],rfl,hp,T.cl,T.nN,(by show 0<1000;decide),?_⟩;refine⟨_,rfl,_,rfl,a,C,dx,_,rfl,af,T.cl,T.nT,(by show 1<1000;decide),?_⟩;rw[show bP "time" t (bP "number" n [])=(["number","time"]:List Str).zip [n,t]from ie (ns:=["number"]) (vs:=[n]) (by decide +kernel) rfl];refine⟨_,rfl,_,rfl,a,C,dx,_,rfl,af,T.cl,T.nW,(by show 2<1000;decide),?_⟩;rw[show bP "way" y ((["number","time"]:List Str).zip [n,t])=(["number","time","way"]:List Str).zip [n,t,y]from ie (ns:=["number","time"]) (vs:=[n,t]) (by decide +kernel) rfl];refine⟨_,rfl,_,rfl,a,C,dx,_,rfl,af,T.cl,T.nL,(by show 3<1000;decide),?_⟩;rw[show bP "length" l ((["number","time","way"]:List Str).zip [n,t,y])=(["number","time","way","length"]:List Str).zip [n,t,y,l]from ie (ns:=["number","time","way"]) (vs:=[n,t,y]) (by decide +kernel) rfl];refine⟨_,rfl,_,rfl,a,C,dx,_,rfl,af,T.cl,T.nK,(by show 4<1000;decide),?_⟩;have e:bP "kept" k ((["number","time","way","length"]:List Str).zip [n,t,y,l])=SI n t y l k:=ie (ns:=["number","time","way","length"]) (vs:=[n,t,y,l]) (by decide +kernel) rfl;refine q _ (by rw[af,e]) λb u hb fR=>?_
  rw[ao fR,ao fR,ao fR,ao fR,ao fR];exact hb
theorem AD{x:Addr}{n l k:V}(hx:H x=none)(hd:H dx=none)(q:∀(H':Hp) (a dx:Addr),a9 H H'->H a=none->H' a=some (.ins C dx (SI n t y l k))->Q (.ref a) H'):
  jM C [.ref x,n,t,y,l,k] (upd (upd H dx (.own x)) x (.ins C dx [])) (λv H2=>v= .dt/\Q (.ref x) H2) E0:=by
 refine⟨x,dx,_,_,_,_,_,rfl,af,λH' h1 h2=>⟨rfl,?_⟩⟩;have sm:a9 H H':=λb u e=>h2 b u (by rw[ao (au e hx),ao (au e hd)];exact e) (au e hx)
 exact q H' x dx sm hx h1
inductive oY(C:Addr)(vs:List V)(H:Hp)(Q:VK)(_E:XK):Prop
 |mk (a ka:Addr) (k:Sf84.Kept):vs=[.ref a]->kS C H a ka k->Q (vN (k.bytes.length+24)) H->oY C vs H Q _E
theorem Nz(F:bU K "weight" "Frame.weight" jX f fd)(T:fo K mg C)(hlen:mg "len"=none)(hE:GI mg "EXTRA_WEIGHT" 24):aP P w K mg base aV 1 f fd ["self"] (oY C):=by
 refine F.ok xZ (λvs H Q E h=>?_) (λbG A outer s H vs Q E hr h=>?_)
 ·obtain⟨a,ka,k,rfl,_⟩:=h;rfl
 ·obtain⟨a,ka,k,rfl,⟨⟨dx,ha⟩,hb⟩,q⟩:=h;refine⟨_,ag (aq (bb ck (dX hlen (aD (pv 0) rfl)) (cI hE))),?_⟩;refine⟨_,rfl,a,C,dx,_,_,rfl,ha,T.cl,T.nK,rp _ _ _ _ _,ka,_,rfl,.inl (bp.of hb),_,_,rfl,rfl,?_⟩;rw[dq];exact q
def ku(k:Sf84.Kept)(n:Nat):Sf84.Kept:={k with bytes:=k.bytes.take n}
inductive yC(C:Addr)(vs:List V)(H:Hp)(Q:VK)(_E:XK):Prop
 |mk (a ka:Addr) (k:Sf84.Kept) (n:Nat):vs=[.ref a,vN n]->kS C H a ka k->(∀(H':Hp) (a' Mm:Addr),a9 H H'->H a'=none->H Mm=none->kS C H' a' Mm (ku k n)->Q (.ref a') H')->yC C vs H Q _E
theorem Fp(F:bU K "shortened" "Frame.shortened" hZ f fd)(T:fo K mg C)(M:Makes P w K mg C 1 (jM C)):aP P w K mg base aV 3 f fd ["self","snap"] (yC C):=by
 refine F.ok rP (λvs H Q E h=>?_) (λbG A outer s H vs Q E hr h=>?_)
 ·obtain⟨a,ka,k,n,rfl,_⟩:=h;rfl
 ·obtain⟨a,ka,k,n,rfl,⟨⟨dx,ha⟩,hb⟩,q⟩:=h;refine⟨_,ag (aq (kO M T.nm hr (aa (aD (pv 0) rfl) (aa (aD (pv 0) rfl) (aa (aD (pv 0) rfl) (aa (aD (pv 0) rfl) (aa (de fw (aD (pv 0) rfl) ur (bQ (pv 1))) aj))))))),?_⟩;refine⟨_,rfl,a,C,dx,_,_,rfl,ha,T.cl,T.nN,xK _ _ _ _ _,_,rfl,a,C,dx,_,_,rfl,ha,T.cl,T.nT,Mw _ _ _ _ _,_,rfl,a,C,dx,_,_,rfl,ha,T.cl,T.nW,Mv _ _ _ _ _,_,rfl,a,C,dx,_,_,rfl,ha,T.cl,T.nL,Mx _ _ _ _ _,
   _,rfl,a,C,dx,_,_,rfl,ha,T.cl,T.nK,rp _ _ _ _ _,_,rfl,_,rfl,ka,_,rfl,bp.of hb,λz hz=>?_⟩
  intro x XG hx pS fR;have ez:d4 (bV k.bytes) none (some (n:Int))=bV (k.bytes.take n):=by
   unfold d4;rw[HT.pB,HT.ia,List.drop_zero,Nat.sub_zero];unfold bV;rw[<-List.map_take,aH]
   congr 1
   by_cases h:n<=k.bytes.length
   ·rw[Nat.min_eq_left h]
   ·rw[Nat.min_eq_right (by omega),List.take_length,eD (by omega)]
  have sz:=aA (o:=.lst (d4 (bV k.bytes) none (some (n:Int)))) hz;refine AD hx pS λH' a' K8 s2 SH h'=>?_
  refine q H' a' z (sz.trans s2) (sz.free SH) hz ⟨⟨K8,h'⟩,?_⟩;show H' z=some (.lst (bV (k.bytes.take n)));rw[<-ez];exact s2 _ _ af
abbrev Ly:Int:=9223372036854775808
@[irreducible] def kC(t:Int):Bool:=decide (0<=t)&&decide (t<Ly)
theorem qp(t:Int):kC t=true↔0<=t/\t<9223372036854775808:=by
 unfold kC;rw[bj,aI,aI]
inductive zj(vs:List V)(H:Hp)(Q:VK)(_E:XK):Prop
 |mk (t:Int):vs=[.int t]->Q (.bl (kC t)) H->zj vs H Q _E
theorem Kg(F:bU K "is_time" "is_time" vI f fd)(hT:GI mg "TIME_LIMIT" Ly):aP P w K mg base aV 1 f fd ["time"] zj:=by
 refine F.ok JX (λvs H Q E h=>?_) (λbG A outer s H vs Q E hr h=>?_)
 ·obtain⟨t,rfl,_⟩:=h;rfl
 ·obtain⟨t,rfl,q⟩:=h;unfold kC at q;refine⟨_,ag (aq (zZ f_ oz ay (pv 0) (cI hT))),?_⟩;exact⟨_,rfl,chE (a:=0) (b:=t) (c:=Ly) (Q:=Q) q⟩
def mn(t:Int):Bool:=decide (t=0)||decide (t=1)
inductive Hl(vs:List V)(H:Hp)(Q:VK)(_E:XK):Prop
 |mk (t:Int):vs=[.int t]->(∀H':Hp,a9 H H'->Q (.bl (mn t)) H')->Hl vs H Q _E
theorem NA(F:bU K "is_way" "is_way" zN f fd):aP P w K mg base aV 1 f fd ["way"] Hl:=by
 refine F.ok Nh (λvs H Q E h=>?_) (λbG A outer s H vs Q E hr h=>?_)
 ·obtain⟨t,rfl,_⟩:=h;rfl
 ·obtain⟨t,rfl,q⟩:=h;refine⟨_,ag (aq (iU qF (pv 0) (jn (aa ay (aa ay aj))) rfl)),?_⟩;refine⟨_,rfl,(by show 2<=sizeLine;decide),λp hp=>⟨p,_,rfl,.inr (rB.of af),rfl,rfl,?_⟩⟩;have e:Sz (V.int t) [V.int 0,V.int 1]=mn t:=by
   unfold Sz mn;rw[List.any_cons,List.any_cons,List.any_nil,Bool.or_false];show((0:Int)==t||(1:Int)==t)=_;apply bN;rw[Bool.or_eq_true,Bool.or_eq_true,beq_iff_eq,beq_iff_eq,aI,aI];omega
  show Q (.bl (Sz (V.int t) [V.int 0,V.int 1])) _;rw[e];exact q _ (aA hp)
def j6(n:Int):Bool:=decide (1<=n)&&decide (n<=1518)
inductive qx(vs:List V)(H:Hp)(Q:VK)(_E:XK):Prop
 |mk (t:Int):vs=[.int t]->Q (.bl (j6 t)) H->qx vs H Q _E
theorem Fx(F:bU K "is_length" "is_length" pq f fd)(hT:GI mg "MOST_FRAME_BYTES" 1518):aP P w K mg base aV 1 f fd ["length"] qx:=by
 refine F.ok E4 (λvs H Q E h=>?_) (λbG A outer s H vs Q E hr h=>?_)
 ·obtain⟨t,rfl,_⟩:=h;rfl
 ·obtain⟨t,rfl,q⟩:=h;refine⟨_,ag (aq (zZ f_ f_ ay (pv 0) (cI hT))),?_⟩;exact⟨_,rfl,aci (a:=1) (b:=t) (c:=1518) (Q:=Q) q⟩
end
section
variable {α β:Type} {F G:α->β->Prop}
theorem ox:∀{l:List α} {m:List β} {i:Nat} {a:α},Paired F l m->l[i]? =some a->∃b,m[i]? =some b/\F a b
 |_,_,_,_,.nil,h=>by simp at h
 |_::_,_::_,0,_,.cons h t,e=>by
  cases e;exact⟨_,rfl,h⟩
 |_::_,_::_,i+1,a,.cons h t,e=>ox (i:=i) t (by simpa using e)
theorem Mc:∀{l:List α} {m:List β} (i:Nat),Paired F l m->Paired F (l.drop i) (m.drop i)
 |_,_,0,h=>h
 |_,_,_+1,.nil=>.nil
 |_,_,i+1,.cons _ t=>Mc i t
theorem iN(f:∀a b,F a b->G a b){l:List α}{m:List β}(h:Paired F l m):Paired G l m:=Paired.TV h f
end
def FR(C:Addr)(ok:Addr->Prop)(H:Hp)(a:Addr)(k:Sf84.Kept):Prop:=∃ka,kS C H a ka k/\ok a/\ok ka
def Frs(C:Addr)(ok:Addr->Prop)(H:Hp)(as:List Addr)(ks:List Sf84.Kept):Prop:=Paired (FR C ok H) as ks
theorem Frs.same{C:Addr}{ok:Addr->Prop}{H H':Hp}{as:List Addr}(h:Frs C ok H as ks)(s:a9 H H'):Frs C ok H' as ks:=iN (λa k ⟨ka,f,o⟩=>⟨ka,f.same s,o⟩) h
theorem Frs.imp{ok UO:Addr->Prop}(h:Frs C ok H as ks)(s:∀a,ok a->UO a):Frs C UO H as ks:=iN (λa k ⟨ka,f,o1,o2⟩=>⟨ka,f,s _ o1,s _ o2⟩) h
theorem Frs.move{ok:Addr->Prop}(h:Frs C ok H as ks)(s:∀b u,ok b->H b=some u->H' b=some u):Frs C ok H' as ks:=
 iN (λa k ⟨ka,⟨⟨dx,f1⟩,f2⟩,o1,o2⟩=>⟨ka,⟨⟨dx,s _ _ o1 f1⟩,s _ _ o2 f2⟩,o1,o2⟩) h
def fileOf(ks:List Sf84.Kept):Bytes:=Sf84.MAGIC++(ks.map Sf84.Kept.saved).flatten
theorem xM(ks:List Sf84.Kept)(k:Sf84.Kept):fileOf (ks++[k])=fileOf ks++k.saved:=by
 unfold fileOf;rw[bH,List.flatten_append];simp
theorem Ol:∀(ks:List Sf84.Kept) (i:Nat),(fileOf (ks.take i)).length<=(fileOf ks).length:=by
 intro ks i;have e:fileOf ks=fileOf (ks.take i)++((ks.drop i).map Sf84.Kept.saved).flatten:=by
  unfold fileOf;rw[dF,<-List.flatten_append,<-bH,List.take_append_drop]
 rw[e,ba];omega
structure MQ(K:Frag)(mg:Str->Option Value):Prop where
 beg:∃a,mg "BEGINNING"=some (.ref a)/\KT K a [vN 67,vN 65,vN 80,vN 84]
 lim:GI mg "NUMBER_LIMIT" Ly
 tat:GI mg "TIME_AT" 8
 wat:GI mg "WAY_AT" 16
 lat:GI mg "LENGTH_AT" 17
 cat:GI mg "COUNT_AT" 19
 kat:GI mg "KEPT_AT" 21
 len:mg "len"=none
 list:mg "list"=none
section
inductive tX(C:Addr)(vs:List V)(H:Hp)(Q:VK)(_E:XK):Prop
 |mk (fa:Addr) (as:List Addr) (ks:List Sf84.Kept):vs=[.ref fa]->H fa=some (.lst (as.map V.ref))->(Frs C (λ_=>True) H as ks)->((∀k∈ks,k.way<=1))->(fileOf ks).length<=1000000->Pa H Q (nums (fileOf ks))->tX C vs H Q _E
theorem uC(F:bU K "file_of_frames" "file_of_frames" iI f fd)(T:fo K mg C)(D:MQ K mg)(mB:mg "bytes_of_number"=some (.ref fB))(cB:Calls aV P w K mg fB 2 qA):aP P w K mg base aV 3 f fd ["frames"] (tX C):=by
 refine F.ok kH (λvs H Q E h=>?_) (λbG A outer s H vs Q E hr h=>?_)
 ·obtain⟨fa,as,ks,rfl,_⟩:=h;rfl
 ·obtain⟨fa,as,ks,rfl,WA,U2,hw,hlen,q⟩:=h;obtain⟨bg,YQ,YU⟩:=D.beg;have nd:=kH.nd;refine⟨_,ae (aB (i:=1) nd rfl (Or.inl rfl) (DJ vg (by rfl) D.list PyProof.Rows.boot_list (aa (BV YQ) aj)))
   (ae (gF PassesOwn.never rfl (dG (pv 0)) (bR (i:=2) nd rfl (Or.inl rfl))
    (ae (aU (pF (pv 1) (aR cB mB hr aE (aa (aD (pv 2) rfl) (aa (cI D.tat) aj)))))
    (ae (aU (pF (pv 1) (aR cB mB hr aE (aa (aD (pv 2) rfl) (aa (bb vV (cI D.wat) (cI D.tat)) aj)))))
    (ae (aU (DM (pv 1) (aD (pv 2) rfl)))
    (ae (aU (pF (pv 1) (aR cB mB hr aE (aa (aD (pv 2) rfl) (aa (bb vV (cI D.cat) (cI D.lat)) aj)))))
    (ae (aU (pF (pv 1) (aR cB mB hr aE (aa (dX D.len (aD (pv 2) rfl)) (aa (bb vV (cI D.kat) (cI D.cat)) aj)))))
    (ag (aU (pF (pv 1) (aD (pv 2) rfl)))))))))) (ag (aq (pv 1)))),?_⟩
  refine⟨bg,_,rfl,.inr YU.sq,λd hd=>?_⟩;have s1:=aA (o:=.lst [vN 67,vN 65,vN 80,vN 84]) hd;refine⟨_,rfl,fa,rfl,⟨_,bp.of (s1 _ _ WA)⟩,je (K:=K) (a:=fa) (xs:=as.map V.ref) (λi σ H'=>∃v:Option V,σ=[some (.ref fa),some (.ref d),v]/\H' d=some (.lst ((nums (fileOf (ks.take i))).map vN))/\a9 H H')
   ⟨none,rfl,af,s1⟩ (λi σ H' _ ⟨_,_,_,s2⟩=>bp.of (s2 _ _ WA)) ?_ ?_⟩
  ·rintro i y σ H2 hi ⟨v,rfl,h2,s2⟩
   obtain⟨a,ha,rfl⟩:=iV hi;obtain⟨k,hk,ka,fk,_,_⟩:=ox U2 ha;obtain⟨⟨dx,ob⟩,C4⟩:=fk;have hln:(nums (fileOf (ks.take i))).length+21+k.bytes.length<=1000000:=by
    have h1:=Ol ks (i+1);rw[eU hk,xM,ba]at h1;have h3:k.saved.length=21+k.bytes.length:=by
     unfold Sf84.Kept.saved;simp only [ba,<-gk (Sf84.be _ _),Bl,jE];omega
    rw[gk];omega
   have e8:∀n,((nums (Sf84.be 8 n)).map vN).length=8:=λn=>by rw[aH,Bl,jE]
   have e2:∀n,((nums (Sf84.be 2 n)).map vN).length=2:=λn=>by rw[aH,Bl,jE]
   have Xj:=s2 _ _ ob;refine⟨_,rfl,.inl ⟨rfl,_,bp.of h2⟩,_,rfl,a,C,dx,_,_,rfl,Xj,T.cl,T.nN,xK _ _ _ _ _,k.id,8,rfl,by decide,λH3 l3 s3 _ Xr=>?_⟩;refine⟨d,l3,_,_,rfl,rfl,s3 _ _ h2,Xr,by rw[e8,aH];exact dH (by omega),?_⟩;have s4:=bY (o:=.lst ((nums (fileOf (ks.take i))).map vN++(nums (Sf84.be 8 k.id)).map vN)) (s2.trans s3) hd;have h4:(upd H3 d (.lst ((nums (fileOf (ks.take i))).map vN++(nums (Sf84.be 8 k.id)).map vN))) d=some (.lst ((nums (fileOf (ks.take i))).map vN++(nums (Sf84.be 8 k.id)).map vN)):=af;generalize upd H3 d (.lst ((nums (fileOf (ks.take i))).map vN++(nums (Sf84.be 8 k.id)).map vN))=H4 at h4 s4;refine⟨_,rfl,.inl ⟨rfl,_,bp.of h4⟩,_,rfl,a,C,dx,_,_,rfl,s4 _ _ ob,T.cl,T.nT,Mw _ _ _ _ _,_,_,rfl,rfl,k.time,8,rfl,by decide,λH5 l5 s5 _ Ub=>?_⟩;refine⟨d,l5,_,_,rfl,rfl,s5 _ _ h4,Ub,by rw[e8,ba,e8,aH];exact dH (by omega),?_⟩;generalize hL6:((nums (fileOf (ks.take i))).map vN++(nums (Sf84.be 8 k.id)).map vN)++(nums (Sf84.be 8 k.time)).map vN=L6;have l6:L6.length=(nums (fileOf (ks.take i))).length+16:=by rw[<-hL6,ba,ba,e8,e8,aH]
   have s6:=bY (o:=.lst L6) (s4.trans s5) hd;have h6:(upd H5 d (.lst L6)) d=some (.lst L6):=af;generalize upd H5 d (.lst L6)=H6 at h6 s6;refine⟨_,rfl,.inl ⟨rfl,_,bp.of h6⟩,_,rfl,a,C,dx,_,_,rfl,s6 _ _ ob,T.cl,T.nW,Mv _ _ _ _ _,d,_,_,rfl,rfl,h6,dE (by omega),?_⟩;have s7:=bY (o:=.lst (L6++[vN k.way])) s6 hd;have h7:(upd H6 d (.lst (L6++[vN k.way]))) d=some (.lst (L6++[vN k.way])):=af;generalize upd H6 d (.lst (L6++[vN k.way]))=H7 at h7 s7;refine⟨_,rfl,.inl ⟨rfl,_,bp.of h7⟩,_,rfl,a,C,dx,_,_,rfl,s7 _ _ ob,T.cl,T.nL,Mx _ _ _ _ _,_,_,rfl,rfl,k.long,2,rfl,by decide,λH8 l8 s8 _ Zi=>?_⟩;refine⟨d,l8,_,_,rfl,rfl,s8 _ _ h7,Zi,by rw[e2,ba];exact dH (by simp;omega),?_⟩;generalize hL9:(L6++[vN k.way])++(nums (Sf84.be 2 k.long)).map vN=L9;have l9:L9.length=(nums (fileOf (ks.take i))).length+19:=by rw[<-hL9,ba,ba,e2,l6];rfl
   have s9:=bY (o:=.lst L9) (s7.trans s8) hd;have h9:(upd H8 d (.lst L9)) d=some (.lst L9):=af;generalize upd H8 d (.lst L9)=H9 at h9 s9;refine⟨_,rfl,.inl ⟨rfl,_,bp.of h9⟩,_,rfl,a,C,dx,_,_,rfl,s9 _ _ ob,T.cl,T.nK,rp _ _ _ _ _,ka,_,rfl,.inl (bp.of (s9 _ _ C4)),_,_,rfl,rfl,k.bytes.length,2,by rw[dq];rfl,by decide,λZ7 l10 Tc _ abU=>?_⟩;refine⟨d,l10,_,_,rfl,rfl,Tc _ _ h9,abU,by rw[e2,l9];exact dH (by omega),?_⟩;generalize Zw:L9++(nums (Sf84.be 2 k.bytes.length)).map vN=Z1;have l11:Z1.length=(nums (fileOf (ks.take i))).length+21:=by rw[<-Zw,ba,e2,l9]
   have Yi:=bY (o:=.lst Z1) (s9.trans Tc) hd;have h11:(upd Z7 d (.lst Z1)) d=some (.lst Z1):=af;generalize upd Z7 d (.lst Z1)=H11 at h11 Yi;refine⟨_,rfl,.inl ⟨rfl,_,bp.of h11⟩,_,rfl,a,C,dx,_,_,rfl,Yi _ _ ob,T.cl,T.nK,rp _ _ _ _ _,d,ka,_,_,rfl,rfl,h11,Yi _ _ C4,by rw[l11,dq];exact dH (by omega),?_⟩;refine⟨some (.ref a),rfl,?_,bY Yi hd⟩;have hw1:k.way<256:=gX (hw k (d7 hk)) (by decide);have e1:nums (Sf84.be 1 k.way)=[k.way]:=by
    show [(UInt8.ofNat (k.way / 1 % 256)).toNat]=_;rw[ofNat_lt (by omega),Nat.div_one,Nat.mod_eq_of_lt hw1]
   rw[af,eU hk,xM,dB,<-Zw,<-hL9,<-hL6];unfold Sf84.Kept.saved;rw[dB,dB,dB,dB,dB,e1,GG];simp only [bH,dF];rfl
  ·rintro σ H2 ⟨v,rfl,h2,s2⟩
   have el:as.length=ks.length:=Paired.length U2;rw[aH,el,List.take_length]at h2;exact⟨_,rfl,q H2 d s2 hd h2⟩
end
def pW(r:Bytes):Nat:=Sf84.number ((r.drop 19).take 2)
def gE(r:Bytes):Sf84.Kept:=⟨Sf84.number (r.take 8),Sf84.number ((r.drop 8).take 8),Sf84.number ((r.drop 16).take 1),Sf84.number ((r.drop 17).take 2),(r.drop 21).take (pW r)⟩
structure GoodR(r:Bytes):Prop where
 l21:21<=r.length
 id:(gE r).id<9223372036854775808
 time:(gE r).time<9223372036854775808
 way:(gE r).way<=1
 lo:1<=(gE r).long
 hi:(gE r).long<=1518
 cnt:pW r<=(gE r).long
 len:21+pW r<=r.length
theorem Ll{i j:Int}{q:Nat}(hi:i=(p:Int))(hj:j=(p:Int)+(q:Int)):d4 xs (some i) (some j)=(xs.drop p).take q:=by rw[hi,hj,MJ]
theorem Jc{b:Bytes}{i j:Int}{q:Nat}(hi:i=(p:Int))(hj:j=(p:Int)+(q:Int)):d4 (bV b) (some i) (some j)=bV ((b.drop p).take q):=by rw[Ll hi hj,R_]
theorem WK(h:decide (Ly<=(n:Int))=true):9223372036854775808<=n:=by
 have h1:(9223372036854775808:Int)<=(n:Int):=cj h;omega
theorem V8(h:¬decide (Ly<=(n:Int))=true):n<9223372036854775808:=by
 have h1:¬(9223372036854775808:Int)<=(n:Int):=eQ (Bool.eq_false_iff.mpr h);omega
theorem Ko(c:UInt8):Sf84.number [c]=c.toNat:=by
 show 256*0+c.toNat=_;omega
section
inductive qy(C:Addr)(vs:List V)(H:Hp)(Q:VK)(_E:XK):Prop
 |mk (a:Addr) (b:Bytes) (p:Nat):vs=[.ref a,vN p]->dI H a b->((¬GoodR (b.drop p)->∀H':Hp,a9 H H'->Q .dt H'))->((GoodR (b.drop p)->∀(H':Hp) (a' Mm:Addr),a9 H H'->H a'=none->H Mm=none->kS C H' a' Mm (gE (b.drop p))->Q (.ref a') H'))->qy C vs H Q _E
theorem Ic(F:bU K "frame_at" "frame_at" rY f fd)(T:fo K mg C)(D:MQ K mg)(M:Makes P w K mg C 1 (jM C))(mN:mg "number_of_bytes"=some (.ref fN))(cN:Calls aV P w K mg fN 1 Hm)
  (mT:mg "is_time"=some (.ref fT)) (cT:Calls aV P w K mg fT 1 zj) (mW:mg "is_way"=some (.ref fW)) (cW:Calls aV P w K mg fW 1 Hl) (mL:mg "is_length"=some (.ref fL)) (cL:Calls aV P w K mg fL 1 qx):
  aP P w K mg base aV 3 f fd ["file","place"] (qy C):=by
 refine F.ok xt (λvs H Q E h=>?_) (λbG A outer s H vs Q E hr h=>?_)
 ·obtain⟨a,b,p,rfl,_⟩:=h;rfl
 ·obtain⟨a,b,p,rfl,hb,k1,k2⟩:=h;have nd:=xt.nd;have jL:=hr.mono (show 1<=2 by decide);refine⟨_,ae (aB (i:=2) nd rfl (Or.inl rfl) (bb ck (pv 1) (cI D.kat)))
   (ae (a7 (aF ux (pv 2) (dX D.len (pv 0)) (aK _)) (ag (aq gG)) aJ)
   (ae (aB (i:=3) nd rfl (Or.inl rfl) (aR cN mN jL aE (aa (de fw (pv 0) (bQ (pv 1)) (bQ (bb ck (pv 1) (cI D.tat)))) aj)))
   (ae (aB (i:=4) nd rfl (Or.inl rfl) (aR cN mN jL aE (aa (de fw (pv 0) (bQ (bb ck (pv 1) (cI D.tat))) (bQ (bb ck (pv 1) (cI D.wat)))) aj)))
   (ae (aB (i:=5) nd rfl (Or.inl rfl) (bu bq (pv 0) (bb ck (pv 1) (cI D.wat)) (λ_ _=>rfl)))
   (ae (aB (i:=6) nd rfl (Or.inl rfl) (aR cN mN jL aE (aa (de fw (pv 0) (bQ (bb ck (pv 1) (cI D.lat))) (bQ (bb ck (pv 1) (cI D.cat)))) aj)))
   (ae (aB (i:=7) nd rfl (Or.inl rfl) (aR cN mN jL aE (aa (de fw (pv 0) (bQ (bb ck (pv 1) (cI D.cat))) (bQ (pv 2))) aj)))
   (ae (a7 (PW.pt (jb (aF uy (pv 3) (cI D.lim) (aK _)) (jb (du (dc (aR cT mT jL aE (aa (pv 4) aj)))) (lF (du (dc (aR cW mW jL aE (aa (pv 5) aj)))))))) (ag (aq gG)) aJ)
   (ae (a7 (PW.pt (jb (du (dc (aR cL mL jL aE (aa (pv 6) aj)))) (jb (aF oz (pv 6) (pv 7) (aK _)) (lF (aF ux (bb ck (pv 2) (pv 7)) (dX D.len (pv 0)) (aK _)))))) (ag (aq gG)) aJ)
   (ag (aq (kO M T.nm hr (aa (pv 3) (aa (pv 4) (aa (pv 5) (aa (pv 6) (aa (de fw (pv 0) (bQ (pv 2)) (bQ (bb ck (pv 2) (pv 7)))) aj)))))))))))))))),?_⟩
  refine⟨_,rfl,_,_,rfl,rfl,?_⟩;refine⟨_,rfl,_,rfl,a,_,rfl,.inl (bp.of hb),_,_,rfl,rfl,_,rfl,?_⟩;rw[dq];refine eM (λh21=>?_) λh21=>?_
  ·have h:=cj h21;refine k1 (λg=>?_) H (a9.refl H);have:=g.l21;rw[a_]at this;omega
  have h21:p+21<=b.length:=by
   have:=eQ (Bool.eq_false_iff.mpr h21);omega
  refine⟨_,rfl,_,rfl,_,rfl,_,rfl,_,_,rfl,rfl,_,rfl,a,_,rfl,bp.of hb,λz1 hz1=>?_⟩;refine⟨z1,(b.drop p).take 8,rfl,by show upd H z1 _ z1=_;rw[af,Jc (p:=p) (q:=8) (by omega) (by omega)],?_⟩;have s1:=aA (o:=.lst (d4 (bV b) (some (p:Int)) (some ((p:Int)+8)))) hz1;generalize upd H z1 (.lst (d4 (bV b) (some (p:Int)) (some ((p:Int)+8))))=H1 at s1 ⊢;refine⟨_,rfl,_,rfl,_,_,rfl,rfl,_,rfl,_,rfl,_,_,rfl,rfl,_,rfl,a,_,rfl,bp.of (s1 _ _ hb),λz2 hz2=>?_⟩;refine⟨z2,((b.drop p).drop 8).take 8,rfl,by show upd H1 z2 _ z2=_;rw[af,List.drop_drop,Jc (p:=p+8) (q:=8) (by omega) (by omega)],?_⟩;have s2:=s1.trans (aA (o:=.lst (d4 (bV b) (some ((p:Int)+8)) (some ((p:Int)+16)))) hz2);generalize upd H1 z2 (.lst (d4 (bV b) (some ((p:Int)+8)) (some ((p:Int)+16))))=H2 at s2 ⊢;have h16:p+16<b.length:=by omega
  have ew:Sf84.number (((b.drop p).drop 16).take 1)=(b[p+16]).toNat:=by
   rw[List.drop_drop,eT h16];exact Ko _
  refine⟨_,rfl,_,rfl,_,_,rfl,rfl,a,_,((p+16:Nat):Int),vN (Sf84.number (((b.drop p).drop 16).take 1)),rfl,congrArg V.int (by omega),bp.of (s2 _ _ hb),bW (by unfold bV;rw[bO,bx h16,ew];rfl),?_⟩;refine⟨_,rfl,_,rfl,_,_,rfl,rfl,_,rfl,_,rfl,_,_,rfl,rfl,_,rfl,a,_,rfl,bp.of (s2 _ _ hb),λz3 hz3=>?_⟩;refine⟨z3,((b.drop p).drop 17).take 2,rfl,by show upd H2 z3 _ z3=_;rw[af,List.drop_drop,Jc (p:=p+17) (q:=2) (by omega) (by omega)],?_⟩;have s3:=s2.trans (aA (o:=.lst (d4 (bV b) (some ((p:Int)+17)) (some ((p:Int)+19)))) hz3);generalize upd H2 z3 (.lst (d4 (bV b) (some ((p:Int)+17)) (some ((p:Int)+19))))=H3 at s3 ⊢;refine⟨_,rfl,_,rfl,_,_,rfl,rfl,_,rfl,_,rfl,_,rfl,a,_,rfl,bp.of (s3 _ _ hb),λz4 hz4=>?_⟩;refine⟨z4,((b.drop p).drop 19).take 2,rfl,by show upd H3 z4 _ z4=_;rw[af,List.drop_drop,Jc (p:=p+19) (q:=2) (by omega) (by omega)],?_⟩;have s4:=s3.trans (aA (o:=.lst (d4 (bV b) (some ((p:Int)+19)) (some ((p:Int)+21)))) hz4);generalize upd H3 z4 (.lst (d4 (bV b) (some ((p:Int)+19)) (some ((p:Int)+21))))=H4 at s4 ⊢;refine⟨_,rfl,_,_,rfl,rfl,_,rfl,eM (λt1=>?_) λt1=>?_⟩
  ·refine cu rfl (k1 (λg=>?_) H4 s4);have h1:=WK t1;have h2:Sf84.number ((b.drop p).take 8)<9223372036854775808:=g.id;omega
  have g1:Sf84.number ((b.drop p).take 8)<9223372036854775808:=by
   have h1:=V8 t1;exact h1
  refine⟨_,rfl,_,rfl,_,rfl,eM (λt2=>?_) λt2=>?_⟩
  ·refine cu rfl (k1 (λg=>?_) H4 s4);have h2:Sf84.number (((b.drop p).drop 8).take 8)<9223372036854775808:=g.time;have:kC ((Sf84.number (((b.drop p).drop 8).take 8):Nat):Int)=true:=(qp _).mpr ⟨by omega,by omega⟩;rw[this]at t2;cases t2
  have g2:Sf84.number (((b.drop p).drop 8).take 8)<9223372036854775808:=by
   have:kC ((Sf84.number (((b.drop p).drop 8).take 8):Nat):Int)=true:=by
    cases e:kC ((Sf84.number (((b.drop p).drop 8).take 8):Nat):Int)with
    |true=>rfl
    |false=>rw[e]at t2;exact absurd rfl t2
   have:=(qp _).mp this;omega
  refine⟨_,rfl,_,rfl,λH5 s5=>⟨_,rfl,?_⟩⟩;have s5:=s4.trans s5;refine eM (λt3=>?_) λt3=>?_
  ·refine k1 (λg=>?_) H5 s5;have h2:Sf84.number (((b.drop p).drop 16).take 1)<=1:=g.way;have:mn ((Sf84.number (((b.drop p).drop 16).take 1):Nat):Int)=true:=by
    unfold mn;rw[Bool.or_eq_true,aI,aI];omega
   rw[this]at t3;cases t3
  have g3:Sf84.number (((b.drop p).drop 16).take 1)<=1:=by
   have:mn ((Sf84.number (((b.drop p).drop 16).take 1):Nat):Int)=true:=by simpa using t3
   unfold mn at this;rw[Bool.or_eq_true,aI,aI]at this;omega
  refine⟨_,rfl,_,rfl,_,rfl,eM (λt4=>?_) λt4=>?_⟩
  ·refine cu rfl (k1 (λg=>?_) H5 s5);have h1:1<=Sf84.number (((b.drop p).drop 17).take 2):=g.lo;have h2:Sf84.number (((b.drop p).drop 17).take 2)<=1518:=g.hi;have:j6 ((Sf84.number (((b.drop p).drop 17).take 2):Nat):Int)=true:=by
    unfold j6;rw[aN (by omega),aN (by omega)];rfl
   rw[this]at t4;cases t4
  have g4:1<=Sf84.number (((b.drop p).drop 17).take 2)/\Sf84.number (((b.drop p).drop 17).take 2)<=1518:=by
   have:j6 ((Sf84.number (((b.drop p).drop 17).take 2):Nat):Int)=true:=by simpa using t4
   unfold j6 at this;rw[bj,aI,aI]at this;omega
  refine⟨_,rfl,_,rfl,_,_,rfl,rfl,_,rfl,eM (λt5=>?_) λt5=>?_⟩
  ·refine cu rfl (k1 (λg=>?_) H5 s5);have h1:((Sf84.number (((b.drop p).drop 17).take 2):Nat):Int)<((Sf84.number (((b.drop p).drop 19).take 2):Nat):Int):=cj t5;have h2:Sf84.number (((b.drop p).drop 19).take 2)<=Sf84.number (((b.drop p).drop 17).take 2):=g.cnt;omega
  have g5:Sf84.number (((b.drop p).drop 19).take 2)<=Sf84.number (((b.drop p).drop 17).take 2):=by
   have h1:¬((Sf84.number (((b.drop p).drop 17).take 2):Nat):Int)<((Sf84.number (((b.drop p).drop 19).take 2):Nat):Int):=eQ (Bool.eq_false_iff.mpr t5);omega
  refine⟨_,rfl,_,rfl,_,_,rfl,rfl,_,rfl,a,_,rfl,.inl (bp.of (s5 _ _ hb)),_,_,rfl,rfl,_,rfl,?_⟩;rw[dq];refine eM (λt6=>?_) λt6=>?_
  ·refine k1 (λg=>?_) H5 s5;have h1:(b.length:Int)<(p:Int)+21+((Sf84.number (((b.drop p).drop 19).take 2):Nat):Int):=cj t6;have h2:21+Sf84.number (((b.drop p).drop 19).take 2)<=(b.drop p).length:=g.len;rw[a_]at h2;omega
  have g6:p+21+Sf84.number (((b.drop p).drop 19).take 2)<=b.length:=by
   have h1:¬(b.length:Int)<(p:Int)+21+((Sf84.number (((b.drop p).drop 19).take 2):Nat):Int):=eQ (Bool.eq_false_iff.mpr t6);omega
  have G:GoodR (b.drop p):=⟨by rw[a_];omega,g1,g2,g3,g4.1,g4.2,g5,by rw[a_];show 21+Sf84.number (((b.drop p).drop 19).take 2)<=_;omega⟩;refine⟨_,rfl,_,rfl,_,rfl,_,rfl,_,rfl,_,rfl,_,rfl,_,rfl,_,rfl,_,_,rfl,rfl,_,rfl,a,_,rfl,bp.of (s5 _ _ hb),λz6 hz6=>?_⟩;intro x dx hx pS fR;have s6:=aA (o:=.lst (d4 (bV b) (some ((p:Int)+21)) (some ((p:Int)+21+((Sf84.number (((b.drop p).drop 19).take 2):Nat):Int))))) hz6;refine AD hx pS λH' a' K8 s7 SH h'=>?_
  refine k2 G H' a' z6 ((s5.trans s6).trans s7) ((s5.trans s6).free SH) (s5.free hz6) ⟨⟨K8,h'⟩,?_⟩;have e:=s7 _ _ (af (H:=H5) (a:=z6) (o:=.lst (d4 (bV b) (some ((p:Int)+21)) (some ((p:Int)+21+((Sf84.number (((b.drop p).drop 19).take 2):Nat):Int))))));rw[Jc (p:=p+21) (q:=Sf84.number (((b.drop p).drop 19).take 2)) (by omega) (by omega),<-List.drop_drop]at e;exact e
end
theorem uk(f last:Nat):Sf84.restored (f+1) last []=some []:=rfl
theorem pC(f last:Nat){r:Bytes}(h:r≠[]):Sf84.restored (f+1) last r=if r.length<21 then none else
  if r.length<21+pW r\/(gE r).id<=last\/2 ^ 63<=(gE r).id\/2 ^ 63<=(gE r).time\/1<(gE r).way\/(gE r).long=0\/1518<(gE r).long\/(gE r).long<pW r then none
  else(Sf84.restored f (gE r).id (r.drop (21+pW r))).map λl=>gE r::l:=ah h
theorem uo{f:Nat}{r:Bytes}(h:r≠[])(g:¬GoodR r):Sf84.restored (f+1) last r=none:=by
 rw[pC f last h];by_cases h1:r.length<21
 ·rw[ai h1]
 rw[ah h1];apply ai;apply Classical.byContradiction;intro q;apply g;have e:(2:Nat) ^ 63=9223372036854775808:=by decide
 rw[e]at q;refine⟨by omega,?_,?_,?_,?_,?_,?_,?_⟩<;>omega
theorem um{f:Nat}{r:Bytes}(h:r≠[])(g:(gE r).id<=last):Sf84.restored (f+1) last r=none:=by
 rw[pC f last h];by_cases h1:r.length<21
 ·rw[ai h1]
 rw[ah h1];exact ai (.inr (.inl g))
theorem xx{f:Nat}{r:Bytes}(h:r≠[])(g:GoodR r)(hl:last<(gE r).id):Sf84.restored (f+1) last r=(Sf84.restored f (gE r).id (r.drop (21+pW r))).map λl=>gE r::l:=by
 rw[pC f last h,ah (Nat.not_lt.mpr g.l21)];apply ah;have e:(2:Nat) ^ 63=9223372036854775808:=by decide
 rw[e];have h1:=g.id;have h2:=g.time;have h3:=g.way;have h4:=g.lo;have h5:=g.hi;have h6:=g.cnt;have h7:=g.len;omega
def mq(b:Bytes):Option (List Sf84.Kept):=if b.take 4≠Sf84.MAGIC then none else Sf84.restored (b.length+1) 0 (b.drop 4)
def nD(ns:List Nat):List PyData:=ns.map λ(n:Nat)=>PyData.int (n:Int)
theorem FG(n:Nat)(ns:List Nat):nD (n::ns)=PyData.int (n:Int)::nD ns:=rfl
theorem F9(K:Frag)(H:Hp):∀ns:List Nat,Br K H (ns.map vN) (nD ns)
 |[]=>.nil
 |n::ns=>.cons (.int _) (F9 K H ns)
theorem IQ:∀ns ms:List Nat,PyData.eqvAll (nD ns) (nD ms)=decide (ns=ms)
 |[],[]=>by simp[nD,PyData.eqvAll]
 |[],_::_=>by simp[nD,PyData.eqvAll]
 |_::_,[]=>by simp[nD,PyData.eqvAll]
 |n::ns,m::ms=>by
  rw[FG,FG,PyData.eqvAll,PyData.eqv,IQ ns ms];apply bN;rw[bj,beq_iff_eq,aI,aI,List.cons.injEq,Int.natCast_inj]
theorem AM:∀ns:List Nat,PyData.canLayAll0 (nD ns)=true/\PyData.depthAll (nD ns)=0
 |[]=>by simp[nD,PyData.canLayAll0,PyData.depthAll]
 |n::ns=>by
  obtain⟨h1,h2⟩:=AM ns;rw[FG,PyData.canLayAll0,PyData.depthAll,h1,h2,PyData.canLay0,PyData.depth];exact⟨rfl,rfl⟩
theorem xo(ns:List Nat):SeqAt.shaped (.list (nD ns))=true:=by
 unfold SeqAt.shaped;rw[bj,aI];rw[PyData.canLay0,PyData.depth,(AM ns).2];exact⟨(AM ns).1,by decide⟩
theorem Q6{a:Bytes}(h:nums a=nums b):a=b:=by
 unfold nums at h
 induction a generalizing b with
 |nil=>cases b with
  |nil=>rfl
  |cons c b=>cases h
 |cons x a ih=>cases b with
  |nil=>cases h
  |cons c b=>
   rw[cz,cz,List.cons.injEq]at h;rw[UInt8.toNat_inj.mp h.1,ih h.2]
section
inductive tW(C:Addr)(vs:List V)(H:Hp)(Q:VK)(_E:XK):Prop
 |mk (a:Addr) (b:Bytes):vs=[.ref a]->dI H a b->b.length<=20000->((mq b=none->∀H':Hp,a9 H H'->Q .dt H'))->((∀ks,mq b=some ks->∀(H':Hp) (d:Addr) (as:List Addr),a9 H H'->H d=none->H' d=some (.lst (as.map V.ref))->Frs C (λx=>H x=none/\x≠d) H' as ks->Q (.ref d) H'))->tW C vs H Q _E
theorem uB(F:bU K "frames_of_file" "frames_of_file" iH f fd)(T:fo K mg C)(D:MQ K mg)(mF:mg "frame_at"=some (.ref fF))(cF:Calls aV P w K mg fF 3 (qy C)):aP P w K mg base aV 4 f fd ["file"] (tW C):=by
 refine F.ok kF (λvs H Q E h=>?_) (λbG A outer s H vs Q E hr h=>?_)
 ·obtain⟨a,b,rfl,_⟩:=h;rfl
 ·obtain⟨a,b,rfl,hb,Mq,k1,k2⟩:=h;obtain⟨bg,YQ,YU⟩:=D.beg;have nd:=kF.nd;refine⟨_,ae (a7 (aF (VW hr.units) (de fw (pv 0) ur (bQ (dX D.len (BV YQ)))) (DJ vg (by rfl) D.list PyProof.Rows.boot_list (aa (BV YQ) aj)) (aK _)) (ag (aq gG)) aJ)
   (ae (aB (i:=1) nd rfl (Or.inl rfl) (aY aj))
   (ae (aB (i:=2) nd rfl (Or.inl rfl) (dX D.len (BV YQ)))
   (ae (aB (i:=3) nd rfl (Or.inl rfl) ay)
   (ae (fi PassesOwn.never (aF oz (pv 2) (dX D.len (pv 0)) (aK _))
    (ae (aB (i:=4) nd rfl (Or.inl rfl) (aR cF mF hr aE (aa (pv 0) (aa (pv 2) aj))))
    (ae (a7 (PW.pt (jb (jm (vR (pv 4))) (lF (aF f_ (aD (pv 4) rfl) (pv 3) (aK _))))) (ag (aq gG)) aJ)
    (ae (aU (DM (pv 1) (pv 4)))
    (ae (aB (i:=3) nd rfl (Or.inl rfl) (aD (pv 4) rfl))
    (ag (lG (i:=2) nd rfl (Or.inl rfl) (bb ck (cI D.kat) (dX D.len (aD (pv 4) rfl))) lJ)))))))
   (ag (aq (pv 1))))))),?_⟩
  refine⟨_,rfl,bg,_,rfl,.inr YU.sq,_,rfl,a,_,rfl,bp.of hb,λz1 hz1=>?_⟩;have s1:=aA (o:=.lst (d4 (bV b) none (some 4))) hz1;have e1:d4 (bV b) none (some 4)=(nums (b.take 4)).map vN:=by
   unfold d4;rw[show(4:Int)=((4:Nat):Int)from rfl,HT.pB,HT.ia,List.drop_zero,Nat.sub_zero,dq,<-GG];unfold bV;rw[<-List.map_take]
   congr 1
   by_cases h:4<=b.length
   ·rw[Nat.min_eq_left h]
   ·rw[Nat.min_eq_right (by omega),List.take_length,eD (by omega)]
  have h1:(upd H z1 (.lst (d4 (bV b) none (some 4)))) z1=some (.lst ((nums (b.take 4)).map vN)):=by rw[af,e1]
  refine⟨bg,_,rfl,.inr YU.sq,λz2 hz2=>?_⟩;have s2:=s1.trans (aA (o:=.lst [vN 67,vN 65,vN 80,vN 84]) hz2);have h2:=aA (o:=.lst [vN 67,vN 65,vN 80,vN 84]) hz2 _ _ h1;have h3:(upd (upd H z1 (.lst (d4 (bV b) none (some 4)))) z2 (.lst [vN 67,vN 65,vN 80,vN 84])) z2=some (.lst ((nums Sf84.MAGIC).map vN)):=af;generalize upd (upd H z1 (.lst (d4 (bV b) none (some 4)))) z2 (.lst [vN 67,vN 65,vN 80,vN 84])=H2 at s2 h2 h3 ⊢;refine⟨_,_,.lst (bp.of h2) (F9 K H2 _),.lst (bp.of h3) (F9 K H2 _),xo _,xo _,_,rfl,?_⟩;rw[PyData.eqv,IQ];by_cases hm:¬b.take 4=Sf84.MAGIC
  ·exact cu (by rw[aQ (λq=>hm (Q6 q))];rfl) (k1 (ai hm) H2 s2)
  have hm:=Classical.not_not.mp hm;refine cx (by rw[aN (by rw[hm])];exact az) ?_;have eu:mq b=Sf84.restored (b.length+1) 0 (b.drop 4):=ah (λq=>q hm);rw[eu]at k1 k2;have hb4:4<=b.length:=by
   have:=congrArg List.length hm;rw[bE]at this;have e:Sf84.MAGIC.length=4:=rfl;omega
  refine⟨bw _,λd hd=>?_⟩;have s3:=s2.trans (aA (o:=.lst []) hd);have hdH:H d=none:=s2.free hd;have h4:(upd H2 d (.lst [])) d=some (.lst []):=af;generalize upd H2 d (.lst [])=H3 at s3 h4 ⊢;refine⟨bg,_,rfl,.inr YU.sq,?_⟩;refine eY (λσ H'=>∃(p last fu:Nat) (as:List Addr) (ks:List Sf84.Kept) (v4:Option V),σ=[some (.ref a),some (.ref d),some (vN p),some (vN last),v4]/\p<=b.length/\b.length - p<fu/\ks.length<=p/\H' d=some (.lst (as.map V.ref))/\Frs C (λx=>H x=none/\x≠d) H' as ks/\a9 H H'/\
    Sf84.restored (b.length+1) 0 (b.drop 4)=(Sf84.restored fu last (b.drop p)).map λl=>ks++l)
   (λσ _=>b.length - intAt σ 2) ⟨4,0,b.length+1,[],[],none,rfl,hb4,by omega,bw _,h4,.nil,s3,?_⟩ ?_ ?_
  ·cases Sf84.restored (b.length+1) 0 (b.drop 4)<;>rfl
  ·rintro σ H4 ⟨p,last,fu,as,ks,v4,rfl,hp,hfu,hkp,hl,U2,sm,er⟩
   refine⟨_,rfl,_,rfl,a,_,rfl,.inl (bp.of (sm _ _ hb)),_,_,rfl,rfl,_,rfl,?_⟩;rw[dq];have WU:as.length=ks.length:=Paired.length U2
   match fu,hfu,er with
   |fu+1,hfu,er=>
    refine eM (λeP=>?_) λeP=>?_
    ·have Ct:p<b.length:=by
      have:=cj eP;omega
     have fR:b.drop p≠[]:=λq=>by
      have:=congrArg List.length q;rw[a_]at this;simp at this;omega
     refine⟨_,rfl,_,rfl,a,b,p,rfl,sm _ _ hb,λg H5 s5=>?_,λg H5 a' Mm s5 SH Ob fm=>?_⟩
     ·refine⟨_,rfl,_,rfl,cu rfl (cu rfl (k1 ?_ H5 (sm.trans s5)))⟩;rw[er,uo fR g];rfl
     ·obtain⟨⟨dx,ob⟩,C4⟩:=id fm;refine⟨_,rfl,_,rfl,cx az ?_⟩;refine⟨_,rfl,a',C,dx,_,_,rfl,ob,T.cl,T.nN,xK _ _ _ _ _,_,rfl,_,_,rfl,rfl,_,rfl,eM (λWz=>?_) λWz=>?_⟩
      ·have h5:((gE (b.drop p)).id:Int)<=(last:Int):=cj Wz;refine k1 ?_ H5 (sm.trans s5);rw[er,um fR (by omega)];rfl
      ·have h5:¬((gE (b.drop p)).id:Int)<=(last:Int):=eQ (Bool.eq_false_iff.mpr Wz);have nad:a'≠d:=λq=>by rw[q,hl]at SH;cases SH
       have nkd:Mm≠d:=λq=>by rw[q,hl]at Ob;cases Ob
       have Ub:=s5 _ _ hl;refine⟨_,rfl,.inl ⟨rfl,_,bp.of Ub⟩,_,rfl,d,_,_,rfl,rfl,Ub,by rw[aH,WU];exact dE (by omega),?_⟩;have ob6:(upd H5 d (.lst (as.map V.ref++[V.ref a']))) a'=_:=(ao nad).trans ob;have by6:(upd H5 d (.lst (as.map V.ref++[V.ref a']))) Mm=_:=(ao nkd).trans C4;refine⟨_,rfl,a',C,dx,_,_,rfl,ob6,T.cl,T.nN,xK _ _ _ _ _,?_⟩;refine⟨_,rfl,_,rfl,a',C,dx,_,_,rfl,ob6,T.cl,T.nK,rp _ _ _ _ _,Mm,_,rfl,.inl (bp.of by6),_,_,rfl,rfl,_,_,rfl,rfl,?_⟩;have abZ:(gE (b.drop p)).bytes.length=pW (b.drop p):=by
        show(((b.drop p).drop 21).take (pW (b.drop p))).length=_;have:=g.len;rw[bE,a_];omega
       have hgl:=g.len;rw[a_]at hgl;rw[dq,abZ];have e5:(p:Int)+(21+(pW (b.drop p):Int))=((p+(21+pW (b.drop p)):Nat):Int):=by omega
       refine⟨⟨p+(21+pW (b.drop p)),(gE (b.drop p)).id,fu,as++[a'],ks++[gE (b.drop p)],some (.ref a'),?_,by omega,by omega,by rw[ba];show ks.length+1<=_;omega,by rw[af,bH];rfl,?_,bY (sm.trans s5) hdH,?_⟩,?_⟩
       ·show [some (V.ref a),some (V.ref d),some (V.int ((p:Int)+(21+(pW (b.drop p):Int)))),some (vN (gE (b.drop p)).id),some (V.ref a')]=_;rw[e5]
       ·refine Paired.snoc (Frs.move (Frs.same U2 s5) λc u o e=>by rw[ao o.2];exact e) ⟨Mm,⟨⟨dx,ob6⟩,by6⟩,⟨sm.free SH,nad⟩,⟨sm.free Ob,nkd⟩⟩
       ·rw[er,xx fR g (by omega),List.drop_drop];cases Sf84.restored fu (gE (b.drop p)).id (b.drop (p+(21+pW (b.drop p))))with
        |none=>rfl
        |some l=>show some (ks++gE (b.drop p)::l)=some (ks++[gE (b.drop p)]++l);rw[dF];rfl
       ·show b.length - ((p:Int)+(21+(pW (b.drop p):Int))).toNat<b.length - ((p:Int)).toNat;omega
    ·have Y9:p=b.length:=by
      have:¬(p:Int)<(b.length:Int):=eQ (Bool.eq_false_iff.mpr eP);omega
     rw[Y9,List.drop_length,uk]at er;refine⟨_,rfl,k2 ks ?_ H4 d as sm hdH hl U2⟩;rw[er];show some (ks++[])=some ks;rw[gW]
  ·intro σ H1 Q1 Q2 hq h;obtain⟨v1,e1,v2,e2,p,ys,x1,x2,i1,j1,r1,r2,c,r3,rest⟩:=h;exact⟨v1,e1,v2,e2,p,ys,x1,x2,i1,j1,r1,r2,c,r3,hq _ _ rest⟩
end
def md:List Str:=["opened","room","snap","frames","weighing","seen","refused","gone","coming_number","slots","gate"]
theorem cf:md.Nodup:=by decide +kernel
structure Raw where
 op:Bool
 room:Nat
 snap:Nat
 wt:Nat
 seen:Nat
 Qn:Nat
 gone:Nat
 next:Nat
 g:Int
 ring:List Sf84.Kept
 zV:List (Option Sf84.Code)
def xI(g:Option Nat):Int:=match g with
 |none=> -1
 |some k=>(k:Int)
def raw(s:Sf84.S):Raw:=⟨s.isOpen,s.room,s.snap,weight s.ring,s.seen,s.refused,s.gone,s.next,xI s.gate,s.ring,s.programs⟩
def R7(q:Raw)(fa sa:Addr):List V:=[.bl q.op,vN q.room,vN q.snap,.ref fa,vN q.wt,vN q.seen,vN q.Qn,vN q.gone,vN q.next,.ref sa,.int q.g]
def dQ(q:Raw)(fa sa:Addr):List (Str×V):=md.zip (R7 q fa sa)
section
variable (q:Raw) (fa sa:Addr)
theorem Be:(dQ q fa sa).lookup ("opened":Str)=some (.bl q.op):=bM (i:=0) cf rfl rfl
theorem R4:(dQ q fa sa).lookup ("room":Str)=some (vN q.room):=bM (i:=1) cf rfl rfl
theorem R3:(dQ q fa sa).lookup ("snap":Str)=some (vN q.snap):=bM (i:=2) cf rfl rfl
theorem p7:(dQ q fa sa).lookup ("frames":Str)=some (.ref fa):=bM (i:=3) cf rfl rfl
theorem Gu:(dQ q fa sa).lookup ("weighing":Str)=some (vN q.wt):=bM (i:=4) cf rfl rfl
theorem Jj:(dQ q fa sa).lookup ("seen":Str)=some (vN q.seen):=bM (i:=5) cf rfl rfl
theorem Jk:(dQ q fa sa).lookup ("refused":Str)=some (vN q.Qn):=bM (i:=6) cf rfl rfl
theorem Jl:(dQ q fa sa).lookup ("gone":Str)=some (vN q.gone):=bM (i:=7) cf rfl rfl
theorem Bf:(dQ q fa sa).lookup ("coming_number":Str)=some (vN q.next):=bM (i:=8) cf rfl rfl
theorem pZ:(dQ q fa sa).lookup ("slots":Str)=some (.ref sa):=bM (i:=9) cf rfl rfl
theorem R6:(dQ q fa sa).lookup ("gate":Str)=some (.int q.g):=bM (i:=10) cf rfl rfl
theorem ML(x:Addr):bP "frames" (.ref x) (dQ q fa sa)=dQ q x sa:=ic (i:=3) cf rfl rfl
theorem Gv(n:Nat):bP "weighing" (vN n) (dQ q fa sa)=dQ {q with wt:=n} fa sa:=ic (i:=4) cf rfl rfl
theorem OS(n:Nat):bP "seen" (vN n) (dQ q fa sa)=dQ {q with seen:=n} fa sa:=ic (i:=5) cf rfl rfl
theorem OT(n:Nat):bP "refused" (vN n) (dQ q fa sa)=dQ {q with Qn:=n} fa sa:=ic (i:=6) cf rfl rfl
theorem OV(n:Nat):bP "gone" (vN n) (dQ q fa sa)=dQ {q with gone:=n} fa sa:=ic (i:=7) cf rfl rfl
theorem OU(n:Nat):bP "coming_number" (vN n) (dQ q fa sa)=dQ {q with next:=n} fa sa:=ic (i:=8) cf rfl rfl
theorem R5(n:Int):bP "gate" (.int n) (dQ q fa sa)=dQ {q with g:=n} fa sa:=ic (i:=10) cf rfl rfl
theorem iw:(dQ q fa sa).length<1000:=by show 11<1000;decide
end
theorem cn(q:Raw)(fa sa:Addr)(h:m ∉ md):(dQ q fa sa).lookup m=none:=Ey h
structure aX(K:Frag)(mg:Str->Option Value)(C:Addr):Prop where
 cl:G0 K C
 nO:b_ K C "opened"
 nR:b_ K C "room"
 nS:b_ K C "snap"
 nF:b_ K C "frames"
 nW:b_ K C "weighing"
 nSe:b_ K C "seen"
 nRe:b_ K C "refused"
 nG:b_ K C "gone"
 nC:b_ K C "coming_number"
 TN:b_ K C "slots"
 Xm:b_ K C "gate"
 nm:mg "Capture"=some (.ref C)
def Off(B:Hp)(c fa sa:Addr)(x:Addr):Prop:=B x=none/\x≠c/\x≠fa/\x≠sa
def sY(ok:Addr->Prop)(H:Hp)(v:V)(o:Option Sf84.Code):Prop:=match o with
 |none=>v= .dt
 |some code=>∃(p:Addr) (rs:List Addr),v= .ref p/\bC H p code rs/\ok p/\∀r∈rs,ok r
theorem sY.move{ok:Addr->Prop}{o:Option Sf84.Code}(h:sY ok H v o)(s:∀b u,ok b->H b=some u->H' b=some u):sY ok H' v o:=by
 cases o with
 |none=>exact h
 |some code=>
  obtain⟨p,rs,rfl,hc,o1,o2⟩:=h;exact⟨p,rs,rfl,⟨s _ _ o1 hc.lst,hc.len,λi r x h1 h2=>s _ _ (o2 r (d7 h1)) (hc.at_ i r x h1 h2)⟩,o1,o2⟩
theorem sY.FY{ok UO:Addr->Prop}{o:Option Sf84.Code}(h:sY ok H v o)(s:∀a u,H a=some u->ok a->UO a):sY UO H v o:=by
 cases o with
 |none=>exact h
 |some code=>
  obtain⟨p,rs,rfl,hc,o1,o2⟩:=h;refine⟨p,rs,rfl,hc,s _ _ hc.lst o1,λr hr=>?_⟩;obtain⟨i,hi⟩:=List.mem_iff_getElem?.mp hr;have eP:i<code.length:=by rw[<-hc.len];exact(List.getElem?_eq_some_iff.mp hi).1
  exact s _ _ (hc.at_ i r _ hi (bx eP)) (o2 r hr)
theorem Frs.FY{ok UO:Addr->Prop}(h:Frs C ok H as ks)(s:∀a u,H a=some u->ok a->UO a):Frs C UO H as ks:=
 iN (λa k ⟨ka,⟨⟨dx,f1⟩,f2⟩,o1,o2⟩=>⟨ka,⟨⟨dx,f1⟩,f2⟩,s _ _ f1 o1,s _ _ f2 o2⟩) h
def Er(o:HO):Prop:=(∀ys,o≠ .tup ys)/\∀a ys,o≠ .lst (.ref a::ys)
theorem Er.ints(ns:List Int):Er (.lst (ns.map V.int)):=⟨λys e=>(by cases e),λa ys e=>(by cases ns<;>cases e)⟩
structure eB(C CF:Addr)(B H:Hp)(c:Addr)(q:Raw)(dx fa sa:Addr)(as:List Addr)(pv:List V):Prop where
 ob:H c=some (.ins C dx (dQ q fa sa))
 fl:H fa=some (.lst (as.map V.ref))
 fr:Frs CF (Off B c fa sa) H as q.ring
 sl:H sa=some (.lst pv)
 pg:Paired (sY (Off B c fa sa) H) pv q.zV
 Sy:fa≠sa
 bc:B c=none
 bf:B fa=none
 bs:B sa=none
 sm:a9 B H
 bi:∀x o,B x=some o->Er o
def cy(C CF:Addr)(B H:Hp)(c:Addr)(s:Sf84.S):Prop:=∃dx fa sa as pv,eB C CF B H c (raw s) dx fa sa as pv
section
variable {C CF:Addr} {B B' H H':Hp} {c dx fa sa:Addr} {q q':Raw} {pv:List V}
theorem eB.nc(X:eB C CF B H c q dx fa sa as pv):c≠fa/\c≠sa:=by
 refine⟨λe=>?_,λe=>?_⟩
 ·have:=X.fl;rw[<-e,X.ob]at this;cases this
 ·have:=X.sl;rw[<-e,X.ob]at this;cases this
theorem eB.same(X:eB C CF B H c q dx fa sa as pv)(s:a9 H H'):eB C CF B H' c q dx fa sa as pv:=
 ⟨s _ _ X.ob,s _ _ X.fl,X.fr.same s,s _ _ X.sl,iN (λ_ _ h=>h.move λb u _ e=>s b u e) X.pg,X.Sy,X.bc,X.bf,X.bs,X.sm.trans s,X.bi⟩
theorem eB.put(X:eB C CF B H c q dx fa sa as pv)(e1:q'.ring=q.ring)(e2:q'.zV=q.zV):eB C CF B (upd H c (.ins C dx (dQ q' fa sa))) c q' dx fa sa as pv:=by
 have nc:=X.nc;refine⟨af,(ao (Ne.symm nc.1)).trans X.fl,?_,(ao (Ne.symm nc.2)).trans X.sl,?_,X.Sy,X.bc,X.bf,X.bs,λb u e=>?_,X.bi⟩
 ·rw[e1];exact X.fr.move λb u o e=>(ao o.2.1).trans e
 ·rw[e2];exact iN (λ_ _ h=>h.move λb u o e=>(ao o.2.1).trans e) X.pg
 ·rw[ao (au e X.bc)];exact X.sm b u e
theorem eB.bse(X:eB C CF B H c q dx fa sa as pv)(sm:a9 B' H)(bi:∀x o,B' x=some o->Er o)(n:∀x,B x=none->H x≠none->B' x=none):eB C CF B' H c q dx fa sa as pv:=by
 have nn:∀x u,H x=some u->H x≠none:=λx u e z=>by rw[e]at z;cases z
 have Sx:∀a u,H a=some u->Off B c fa sa a->Off B' c fa sa a:=λa u e o=>⟨n a o.1 (nn a u e),o.2⟩
 exact⟨X.ob,X.fl,X.fr.FY Sx,X.sl,iN (λ_ _ h=>h.FY Sx) X.pg,X.Sy,n _ X.bc (nn _ _ X.ob),n _ X.bf (nn _ _ X.fl),n _ X.bs (nn _ _ X.sl),sm,bi⟩
theorem eB.write{x:Addr}{o:HO}(X:eB C CF B H c q dx fa sa as pv)(ho:Er o)(hx:B x≠none\/H x=none):eB C CF (upd B x o) (upd H x o) c q dx fa sa as pv:=by
 have ne:∀a,B a=none->H a≠none->a≠x:=λa h1 h2 e=>by
  subst e;rcases hx with hx|hx
  ·exact hx h1
  ·exact h2 hx
 have nn:∀x u,H x=some u->H x≠none:=λx u e z=>by rw[e]at z;cases z
 have Sx:∀a u,H a=some u->Off B c fa sa a->Off (upd B x o) c fa sa a:=λa u e z=>⟨(ao (ne a z.1 (nn a u e))).trans z.1,z.2⟩
 have mv:∀b u,Off (upd B x o) c fa sa b->H b=some u->upd H x o b=some u:=λb u z e=>by
  have:b≠x:=λq=>by
   have h:=z.1;rw[q,af]at h;cases h
  exact(ao this).trans e
 have n1:=ne c X.bc (nn _ _ X.ob);have n2:=ne fa X.bf (nn _ _ X.fl);have n3:=ne sa X.bs (nn _ _ X.sl);refine⟨(ao n1).trans X.ob,(ao n2).trans X.fl,(X.fr.FY Sx).move mv,(ao n3).trans X.sl,iN (λ_ _ h=>(h.FY Sx).move mv) X.pg,X.Sy,(ao n1).trans X.bc,(ao n2).trans X.bf,(ao n3).trans X.bs,λb u e=>?_,λb u e=>?_⟩
 ·by_cases hb:b=x
  ·rw[hb,af]at e;rw[hb,af];exact e
  ·rw[ao hb]at e ⊢;exact X.sm b u e
 ·by_cases hb:b=x
  ·rw[hb,af]at e;cases e;exact ho
  ·rw[ao hb]at e;exact X.bi b u e
theorem eB.code(X:eB C CF B H c q dx fa sa as pv){p:Addr}{code:Sf84.Code}{rs:List Addr}(hc:bC H p code rs)(fR:code≠[]):Off B c fa sa p/\∀r∈rs,Off B c fa sa r:=by
 have tup:∀r∈rs,∃ys,H r=some (.tup ys):=λr hr=>by
  obtain⟨i,hi⟩:=List.mem_iff_getElem?.mp hr;have eP:i<code.length:=by rw[<-hc.len];exact(List.getElem?_eq_some_iff.mp hi).1
  exact⟨_,hc.at_ i r _ hi (bx eP)⟩
 have hrs:∃r0 Yk,rs=r0::Yk:=by
  cases rs with
  |nil=>
   have:=hc.len;exact absurd (List.length_eq_zero_iff.mp this.symm) fR
  |cons r0 Yk=>exact⟨r0,Yk,rfl⟩
 obtain⟨r0,Yk,rfl⟩:=hrs;obtain⟨y0,h0⟩:=tup r0 bB;have hl:H p=some (.lst (.ref r0::Yk.map V.ref)):=hc.lst;refine⟨⟨?_,?_,?_,?_⟩,λr hr=>?_⟩
 ·cases e:B p with
  |none=>rfl
  |some o=>
   have:=X.sm _ _ e;rw[hl]at this;cases this;exact absurd rfl ((X.bi _ _ e).2 _ _)
 ·rintro rfl
  rw[X.ob]at hl;cases hl
 ·rintro rfl
  rw[X.fl]at hl;cases as with
  |nil=>cases hl
  |cons a0 as0=>
   have e:a0=r0:=by
    have:=HO.lst.inj (aO hl);rw[cz,List.cons.injEq]at this;exact V.ref.inj this.1
   obtain⟨k,_,ka,fm,_⟩:=ox (i:=0) X.fr rfl;obtain⟨dy,ob⟩:=fm.ob;rw[e,h0]at ob;cases ob
 ·rintro rfl
  rw[X.sl]at hl;cases hl;obtain⟨o,_,hp⟩:=ox (i:=0) X.pg rfl;cases o with
  |none=>cases hp
  |some acx=>
   obtain⟨p2,UI,e,h2,_⟩:=hp;cases e;have:=h2.lst;rw[h0]at this;cases this
 ·obtain⟨ys,Py⟩:=tup r hr;refine⟨?_,?_,?_,?_⟩
  ·cases e:B r with
   |none=>rfl
   |some o=>
    have:=X.sm _ _ e;rw[Py]at this;cases this;exact absurd rfl ((X.bi _ _ e).1 _)
  ·rintro rfl
   rw[X.ob]at Py;cases Py
  ·rintro rfl
   rw[X.fl]at Py;cases Py
  ·rintro rfl
   rw[X.sl]at Py;cases Py
end
theorem cy.same{C CF:Addr}{H H':Hp}{c:Addr}{s:Sf84.S}(X:cy C CF B H c s)(e:a9 H H'):cy C CF B H' c s:=by
 obtain⟨dx,fa,sa,as,pv,X⟩:=X;exact⟨dx,fa,sa,as,pv,X.same e⟩
theorem cy.write{C CF:Addr}{H:Hp}{c x:Addr}{s:Sf84.S}{o:HO}(X:cy C CF B H c s)(ho:Er o)(h:B x≠none\/H x=none):cy C CF (upd B x o) (upd H x o) c s:=by
 obtain⟨dx,fa,sa,as,pv,X⟩:=X;exact⟨dx,fa,sa,as,pv,X.write ho h⟩
theorem cy.bse{C CF:Addr}{H:Hp}{c:Addr}{s:Sf84.S}(X:cy C CF B H c s)(sm:a9 B' H)(bi:∀x o,B' x=some o->Er o)(n:∀x,B x=none->H x≠none->B' x=none):cy C CF B' H c s:=by
 obtain⟨dx,fa,sa,as,pv,X⟩:=X;exact⟨dx,fa,sa,as,pv,X.bse sm bi n⟩
theorem cy.sm{C CF:Addr}{H:Hp}{c:Addr}{s:Sf84.S}(X:cy C CF B H c s):a9 B H:=by
 obtain⟨dx,fa,sa,as,pv,X⟩:=X;exact X.sm
structure Good(s:Sf84.S):Prop where
 pl:s.programs.length=16
 pf:∀k c,s.program k=some c->Sf84.fault c=none
 gt:∀k,s.gate=some k->k<16/\(s.program k).isSome=true
 ring:∀k∈s.ring,k.way<=1/\k.bytes.length<=1518
 wt:weight s.ring<=16777216
 next:1<=s.next
 rm:s.room<=16777216
theorem yV:∀l:List Sf84.Kept,24*l.length<=weight l
 |[]=>aM _
 |k::l=>by
  have:=yV l;show 24*(l.length+1)<=(k.bytes.length+24)+weight l;omega
theorem Good.len{s:Sf84.S}(G:Good s):s.ring.length<=700000:=by
 have:=yV s.ring;have:=G.wt;omega
def Ans(C CF:Addr)(B:Hp)(c:Addr)(r:Sf84.S×Sf84.Ans)(Q:VK):Prop:=∀(H':Hp) (l:Addr),cy C CF B H' c r.1->B l=none->H' l=some (.lst ((Sf84Neutral.listOf r.2).map V.int))->Q (.ref l) H'
structure ml(mg:Str->Option Value):Prop where
 na:GI mg "NOT_ALLOWED" (-1)
 nt:GI mg "NONE_THERE" (-2)
 nf:GI mg "NO_FILE" (-3)
 ig:GI mg "IS_GATE" (-4)
 pw:GI mg "PROGRAM_WRONG" (-7)
 wf:GI mg "WRONG_FROM" (-10)
 nr:GI mg "NOT_REFUSED" 0
 ng:GI mg "NO_GATE" (-1)
 sl:GI mg "SLOTS" 16
 lr:GI mg "LEAST_ROOM" 2048
 mr:GI mg "MOST_ROOM" 16777216
 mt:GI mg "MOST_TEXT_BYTES" 1024
 mf:GI mg "MOST_FOUND" 65536
 mb:GI mg "MOST_FRAME_BYTES" 1518
 len:mg "len"=none
 Pq:mg "range"=none
 max:mg "max"=none
 sum:mg "sum"=none
theorem aZ{c:Addr}{r:Sf84.S×Sf84.Ans}(k:Ans C CF B c r Q)(e:r=(s',Sf84.says z))(X:cy C CF B H c s'):∀l,H l=none->Q (.ref l) (upd H l (.lst [.int z])):=by
 intro l hl;subst e;exact k _ l (X.same (aA hl)) (X.sm.free hl) af
theorem one_le:1<=sizeLine:=by decide
@[irreducible] def dr(z:Int):Bool:=decide (0<=z)&&decide (z<16)
theorem d_(z:Int):dr z=true↔0<=z/\z<16:=by
 unfold dr;rw[bj,aI,aI]
theorem eX(z:Int):Sf84.within z 0 15=dr z:=by
 apply bN;rw[d_];unfold Sf84.within;rw[bj,aI,aI];omega
def Nk(s:Sf84.S)(z:Int):Int:=if dr z=true then(if(s.program z.toNat).isNone=true then -2 else 0)else -1
theorem LW{B:Hp}{c fa sa:Addr}{pv:List V}{s:Sf84.S}(X:eB C CF B H c (raw s) dx fa sa as pv)(G:Good s){k:Nat}(hk:k<16):∃v,pv[k]? =some v/\sY (Off B c fa sa) H v (s.program k):=by
 have hl:pv.length=s.programs.length:=Paired.length X.pg;have AV:k<pv.length:=by rw[hl,G.pl];exact hk
 obtain⟨o,ho,hp⟩:=ox X.pg (bx AV);refine⟨_,bx AV,?_⟩;unfold Sf84.S.program;rw[show s.programs[k]? =some o from ho];exact hp
theorem sY.TM{ok:Addr->Prop}{o:Option Sf84.Code}(h:sY ok H v o):decide (v=V.dt)=o.isNone:=by
 cases o with
 |none=>rw[show v=V.dt from h];rfl
 |some code=>
  obtain⟨p,rs,rfl,_⟩:=h;rfl
section
variable {C CF:Addr}
inductive vA(vs:List V)(H:Hp)(Q:VK)(_E:XK):Prop
 |mk (z:Int):vs=[.int z]->Q (.bl (dr z)) H->vA vs H Q _E
theorem Kh(F:bU K "is_slot" "is_slot" vJ f fd)(N:ml mg):aP P w K mg base aV 1 f fd ["slot"] vA:=by
 refine F.ok JY (λvs H Q E h=>?_) (λbG A outer s H vs Q E hr h=>?_)
 ·obtain⟨t,rfl,_⟩:=h;rfl
 ·obtain⟨t,rfl,q⟩:=h;unfold dr at q;refine⟨_,ag (aq (zZ f_ oz ay (pv 0) (cI N.sl))),?_⟩;exact⟨_,rfl,chE (a:=0) (b:=t) (c:=16) (Q:=Q) q⟩
inductive ft(C CF:Addr)(vs:List V)(H:Hp)(Q:VK)(_E:XK):Prop
 |mk (B:Hp) (c:Addr) (s:Sf84.S) (z:Int):vs=[.ref c,.int z]->cy C CF B H c s->Good s->Q (.int (Nk s z)) H->ft C CF vs H Q _E
theorem B7(F:bU K "refusal_of" "Capture.refusal_of" fc f fd)(T:aX K mg C)(N:ml mg)(mS:mg "is_slot"=some (.ref fS))(cS:Calls aV P w K mg fS 1 vA):aP P w K mg base aV 2 f fd ["self","slot"] (ft C CF):=by
 refine F.ok oC (λvs H Q E h=>?_) (λbG A outer s H vs Q E hr h=>?_)
 ·obtain⟨B,c,s,z,rfl,_⟩:=h;rfl
 ·obtain⟨B,c,s,z,rfl,⟨dx,fa,sa,as,iA,X⟩,G,k⟩:=h;refine⟨_,ae (a7 (du (dc (aR cS mS hr aE (aa (pv 1) aj)))) (ag (aq (cI N.na))) aJ)
   (ae (a7 (jm (vR (bu bq (aD (pv 0) rfl) (pv 1) (λ_ _=>rfl)))) (ag (aq (cI N.nt))) aJ) (ag (aq (cI N.nr)))),?_⟩
  refine⟨_,rfl,z,rfl,_,rfl,?_⟩;unfold Nk at k;cases hz:dr z with
  |false=>rw[hz]at k;exact cu rfl k
  |true=>
   rw[hz,ai rfl]at k;refine cx az ?_;have T5:=(d_ z).mp hz;obtain⟨v,hv,hp⟩:=LW X G (k:=z.toNat) (by omega);refine⟨_,rfl,c,C,dx,_,_,rfl,X.ob,T.cl,T.TN,pZ _ _ _,_,rfl,sa,_,z,v,rfl,rfl,bp.of X.sl,by rw[show z=((z.toNat:Nat):Int) by omega];exact bW hv,_,rfl,?_⟩;rw[hp.TM];exact eM (λh=>by rw[ai h]at k;exact k) λh=>by rw[ah h]at k;exact k
inductive lS(C CF:Addr)(vs:List V)(H:Hp)(Q:VK)(_E:XK):Prop
 |mk (B:Hp) (c:Addr) (s:Sf84.S) (z:Int):vs=[.ref c,.int z]->cy C CF B H c s->((s.frame z=none->Q .dt H))->(∀k a ka,s.frame z=some k->kS CF H a ka k->Q (.ref a) H)->lS C CF vs H Q _E
theorem Ib(F:bU K "frame_of" "Capture.frame_of" gC f fd)(T:aX K mg C)(R:fo K mg CF):aP P w K mg base aV 1 f fd ["self","number"] (lS C CF):=by
 refine F.ok jt (λvs H Q E h=>?_) (λbG A outer s H vs Q E hr h=>?_)
 ·obtain⟨B,c,s,z,rfl,_⟩:=h;rfl
 ·obtain⟨B,c,s,z,rfl,⟨dx,fa,sa,as,iA,X⟩,k1,k2⟩:=h;have nd:=jt.nd;refine⟨_,ae (gF PassesOwn.never rfl (dG (aD (pv 0) rfl)) (bR (i:=2) nd rfl (Or.inl rfl)) (ag (a7 (aF dg (aD (pv 2) rfl) (pv 1) (aK _)) (ag (aq (pv 2))) aJ))) (ag (aq gG)),?_⟩;refine⟨_,rfl,c,C,dx,_,_,rfl,X.ob,T.cl,T.nF,p7 _ _ _,fa,rfl,⟨_,bp.of X.fl⟩,je (K:=K) (a:=fa) (xs:=as.map V.ref) (λi σ H'=>H'=H/\(∃v:Option V,σ=[some (.ref c),some (.int z),v])/\s.frame z=(s.ring.drop i).find? λ(k:Sf84.Kept)=>(k.id:Int)==z)
   ⟨rfl,⟨none,rfl⟩,rfl⟩ (λi σ H' _ ⟨e,_⟩=>by rw[e];exact bp.of X.fl) ?_ ?_⟩
  ·rintro i y σ H' hi ⟨rfl,⟨v,rfl⟩,ef⟩
   obtain⟨a,ha,rfl⟩:=iV hi;obtain⟨kk,hk,ka,fm,_⟩:=ox X.fr ha;obtain⟨⟨dy,ob⟩,C4⟩:=id fm;have AV:s.ring[i]? =some kk:=hk;obtain⟨JF,e'⟩:=List.getElem?_eq_some_iff.mp AV;rw[eT JF,e',List.find?_cons]at ef;refine⟨_,rfl,a,CF,dy,_,_,rfl,ob,R.cl,R.nN,xK _ _ _ _ _,_,rfl,rfl,_,rfl,?_⟩;have ed:decide (V.int (kk.id:Int)=V.int z)=((kk.id:Int)==z):=by
    apply bN;rw[aI,beq_iff_eq];exact⟨λh=>V.int.inj h,λh=>by rw[h]⟩
   show if decide (V.int (kk.id:Int)=V.int z)=true then _ else _
   rw[ed];cases hz:((kk.id:Int)==z)with
   |true=>
    rw[hz]at ef;exact cu rfl ⟨_,rfl,k2 kk a ka ef fm⟩
   |false=>
    rw[hz]at ef;exact cx az ⟨rfl,⟨_,rfl⟩,ef⟩
  ·rintro σ H' ⟨rfl,⟨v,rfl⟩,ef⟩
   have hl:as.length=s.ring.length:=Paired.length X.fr;rw[aH,hl,List.drop_length]at ef;exact k1 ef
inductive tY(C CF:Addr)(vs:List V)(H:Hp)(Q:VK)(_E:XK):Prop
 |mk (B:Hp) (c:Addr) (s:Sf84.S):vs=[.ref c]->cy C CF B H c s->Ans C CF B c (Sf84.does s .counts) Q->tY C CF vs H Q _E
theorem Ad(F:bU K "tell_counts" "Capture.tell_counts" eR f fd)(T:aX K mg C)(N:ml mg):aP P w K mg base aV 1 f fd ["self"] (tY C CF):=by
 refine F.ok g8 (λvs H Q E h=>?_) (λbG A outer s H vs Q E hr h=>?_)
 ·obtain⟨B,c,s,rfl,_⟩:=h;rfl
 ·obtain⟨B,c,s,rfl,⟨dx,fa,sa,as,iA,X⟩,k⟩:=h;have nd:=g8.nd;refine⟨_,ae (aB (i:=1) nd rfl (Or.inl rfl) (aY (aa (dX N.len (aD (pv 0) rfl)) (aa (aD (pv 0) rfl) aj))))
   (ag (aq (bb gi (bb gi (aY (aa ay aj)) (pv 1)) (aY (aa (aD (pv 0) rfl) (aa (aD (pv 0) rfl) (aa (aD (pv 0) rfl) (aa (aD (pv 0) rfl) aj)))))))),?_⟩
  have hl:as.length=s.ring.length:=Paired.length X.fr;refine⟨_,rfl,c,C,dx,_,_,rfl,X.ob,T.cl,T.nF,p7 _ _ _,fa,_,rfl,.inl (bp.of X.fl),_,rfl,c,C,dx,_,_,rfl,X.ob,T.cl,T.nW,Gu _ _ _,(by show 2<=sizeLine;decide),λl1 h1=>?_⟩;refine⟨one_le,λl2 h2=>?_⟩;have s2:=aA (o:=.lst [V.int 0]) h2;refine⟨_,rfl,l2,l1,_,_,rfl,rfl,af,s2 _ _ af,(by show 3<=sizeLine;decide),λl3 h3=>?_⟩;have X3:=((X.same (aA (o:=.lst [V.int ((as.map V.ref).length:Int),vN (raw s).wt]) h1)).same s2).same (aA (o:=.lst ([V.int 0]++[V.int ((as.map V.ref).length:Int),vN (raw s).wt])) h3);have h3':(upd (upd (upd H l1 (.lst [V.int ((as.map V.ref).length:Int),vN (raw s).wt])) l2 (.lst [V.int 0])) l3 (.lst ([V.int 0]++[V.int ((as.map V.ref).length:Int),vN (raw s).wt]))) l3=_:=af;generalize upd (upd (upd H l1 (.lst [V.int ((as.map V.ref).length:Int),vN (raw s).wt])) l2 (.lst [V.int 0])) l3 (.lst ([V.int 0]++[V.int ((as.map V.ref).length:Int),vN (raw s).wt]))=H3 at X3 h3' ⊢;refine⟨_,rfl,c,C,dx,_,_,rfl,X3.ob,T.cl,T.nSe,Jj _ _ _,_,rfl,c,C,dx,_,_,rfl,X3.ob,T.cl,T.nRe,Jk _ _ _,_,rfl,c,C,dx,_,_,rfl,X3.ob,T.cl,T.nG,Jl _ _ _,_,rfl,c,C,dx,_,_,rfl,X3.ob,T.cl,T.nC,Bf _ _ _,(by show 4<=sizeLine;decide),λl4 h4=>?_⟩;have s4:=aA (o:=.lst [vN (raw s).seen,vN (raw s).Qn,vN (raw s).gone,vN (raw s).next]) h4;refine⟨l3,l4,_,_,rfl,rfl,s4 _ _ h3',af,(by show 7<=sizeLine;decide),λl5 h5=>?_⟩;refine k _ l5 ⟨dx,fa,sa,as,iA,(X3.same s4).same (aA h5)⟩ ((X3.same s4).sm.free h5) ?_;rw[af,aH,hl];rfl
end
theorem jK(ns:List Nat):(ns.map λ(n:Nat)=>(n:Int)).map V.int=ns.map vN:=by rw[List.map_map];rfl
section
variable {C CF:Addr}
theorem A0{s:Sf84.S}{k:Sf84.Kept}(h:s.frame z=some k):k∈s.ring:=by
 unfold Sf84.S.frame at h;exact List.mem_of_find?_eq_some h
inductive LS(C CF:Addr)(vs:List V)(H:Hp)(Q:VK)(_E:XK):Prop
 |mk (B:Hp) (c:Addr) (s:Sf84.S) (z:Int):vs=[.ref c,.int z]->cy C CF B H c s->Good s->Ans C CF B c (Sf84.does s (.get z)) Q->LS C CF vs H Q _E
theorem B2(F:bU K "tell_frame" "Capture.tell_frame" fb f fd)(T:aX K mg C)(R:fo K mg CF)(N:ml mg)(M:bh aV P w K mg C "frame_of" 1 (lS C CF)):aP P w K mg base aV 2 f fd ["self","number"] (LS C CF):=by
 refine F.ok iC (λvs H Q E h=>?_) (λbG A outer s H vs Q E hr h=>?_)
 ·obtain⟨B,c,s,z,rfl,_⟩:=h;rfl
 ·obtain⟨B,c,s,z,rfl,X,G,k⟩:=h;have nd:=iC.nd;obtain⟨dx,fa,sa,as,iA,XX⟩:=id X;refine⟨_,ae (aB (i:=2) nd rfl (Or.inl rfl) (dj M T.cl (pv 0) hr aE (aa (pv 1) aj)))
   (ae (a7 (jm (vR (pv 2))) (ag (aq (aY (aa (cI N.nt) aj)))) aJ)
   (ag (aq (bb gi (aY (aa (dX N.len (aD (pv 2) rfl)) (aa (aD (pv 2) rfl) (aa (aD (pv 2) rfl) (aa (aD (pv 2) rfl) aj))))) (aD (pv 2) rfl))))),?_⟩
  refine⟨_,rfl,c,dx,_,rfl,XX.ob,cn _ _ _ (by decide +kernel),_,rfl,B,c,s,z,rfl,X,λe=>?_,λkk a ka e fm=>?_⟩
  ·refine⟨_,rfl,_,rfl,cu rfl ⟨one_le,aZ k ?_ X⟩⟩;show(s,match s.frame z with|some k=>(⟨k.bytes.length,k.time::k.way::k.long::nums k.bytes⟩:Sf84.Ans)|none=>Sf84.says (-2))=_;rw[e]
  ·obtain⟨⟨dy,ob⟩,C4⟩:=id fm;refine⟨_,rfl,_,rfl,cx az ?_⟩;refine⟨_,rfl,a,CF,dy,_,_,rfl,ob,R.cl,R.nK,rp _ _ _ _ _,ka,_,rfl,.inl (bp.of C4),_,rfl,a,CF,dy,_,_,rfl,ob,R.cl,R.nT,Mw _ _ _ _ _,_,rfl,a,CF,dy,_,_,rfl,ob,R.cl,R.nW,Mv _ _ _ _ _,_,rfl,a,CF,dy,_,_,rfl,ob,R.cl,R.nL,Mx _ _ _ _ _,(by show 4<=sizeLine;decide),λl1 h1=>?_⟩;have s1:=aA (o:=.lst [V.int ((bV kk.bytes).length:Int),vN kk.time,vN kk.way,vN kk.long]) h1;have hb:=(G.ring kk (A0 e)).2;refine⟨_,rfl,a,CF,dy,_,_,rfl,s1 _ _ ob,R.cl,R.nK,rp _ _ _ _ _,l1,ka,_,_,rfl,rfl,af,s1 _ _ C4,by rw[dq];exact dH (by simp;omega),λl2 h2=>?_⟩;have e2:Sf84.does s (.get z)=(s,(⟨kk.bytes.length,kk.time::kk.way::kk.long::nums kk.bytes⟩:Sf84.Ans)):=by
    show(s,match s.frame z with|some k=>(⟨k.bytes.length,k.time::k.way::k.long::nums k.bytes⟩:Sf84.Ans)|none=>Sf84.says (-2))=_;rw[e]
   rw[e2]at k;refine k _ l2 ((X.same s1).same (aA h2)) ((X.same s1).sm.free h2) ?_;rw[af,dq,GG,<-jK];rfl
inductive yH(C CF:Addr)(vs:List V)(H:Hp)(Q:VK)(_E:XK):Prop
 |mk (B:Hp) (c:Addr) (s:Sf84.S) (z:Int):vs=[.ref c,.int z]->cy C CF B H c s->Good s->Ans C CF B c (Sf84.does s (.dump z)) Q->yH C CF vs H Q _E
theorem Fn(F:bU K "tell_dump" "Capture.tell_dump" gf f fd)(T:aX K mg C)(R:fo K mg CF)(N:ml mg)(M:bh aV P w K mg C "frame_of" 1 (lS C CF))(mD:mg "dump_of"=some (.ref fD))(cD:Calls aV P w K mg fD 4 EX):aP P w K mg base aV 5 f fd ["self","number"] (yH C CF):=by
 refine F.ok i9 (λvs H Q E h=>?_) (λbG A outer s H vs Q E hr h=>?_)
 ·obtain⟨B,c,s,z,rfl,_⟩:=h;rfl
 ·obtain⟨B,c,s,z,rfl,X,G,k⟩:=h;have nd:=i9.nd;obtain⟨dx,fa,sa,as,iA,XX⟩:=id X;refine⟨_,ae (aB (i:=2) nd rfl (Or.inl rfl) (dj M T.cl (pv 0) (hr.mono (by decide)) aE (aa (pv 1) aj)))
   (ae (a7 (jm (vR (pv 2))) (ag (aq (aY (aa (cI N.nt) aj)))) aJ)
   (ae (aB (i:=3) nd rfl (Or.inl rfl) (aR cD mD hr aE (aa (aD (pv 2) rfl) aj)))
   (ag (aq (bb gi (aY (aa (dX N.len (pv 3)) aj)) (pv 3)))))),?_⟩
  refine⟨_,rfl,c,dx,_,rfl,XX.ob,cn _ _ _ (by decide +kernel),_,rfl,B,c,s,z,rfl,X,λe=>?_,λkk a ka e fm=>?_⟩
  ·refine⟨_,rfl,_,rfl,cu rfl ⟨one_le,aZ k ?_ X⟩⟩;show(s,match s.frame z with|some k=>(⟨(kg k.bytes).length,nums (kg k.bytes)⟩:Sf84.Ans)|none=>Sf84.says (-2))=_;rw[e]
  ·obtain⟨⟨dy,ob⟩,C4⟩:=id fm;have hb:=(G.ring kk (A0 e)).2;refine⟨_,rfl,_,rfl,cx az ?_⟩;refine⟨_,rfl,a,CF,dy,_,_,rfl,ob,R.cl,R.nK,rp _ _ _ _ _,ka,kk.bytes,rfl,C4,by omega,λH1 l1 s1 _ h1=>?_⟩;refine⟨_,rfl,l1,_,rfl,.inl (bp.of h1),one_le,λl2 h2=>?_⟩;have s2:=aA (o:=.lst [V.int (((nums (kg kk.bytes)).map vN).length:Int)]) h2;have hd:=K9 (b:=kk.bytes) (by omega);refine⟨_,rfl,l2,l1,_,_,rfl,rfl,af,s2 _ _ h1,by rw[aH,gk];exact dH (by simp;omega),λl3 h3=>?_⟩;have e2:Sf84.does s (.dump z)=(s,(⟨(kg kk.bytes).length,nums (kg kk.bytes)⟩:Sf84.Ans)):=by
    show(s,match s.frame z with|some k=>(⟨(kg k.bytes).length,nums (kg k.bytes)⟩:Sf84.Ans)|none=>Sf84.says (-2))=_;rw[e]
   rw[e2]at k;refine k _ l3 (((X.same s1).same s2).same (aA h3)) (((X.same s1).same s2).sm.free h3) ?_;rw[af,aH,gk,<-jK];rfl
inductive EL(C CF:Addr)(vs:List V)(H:Hp)(Q:VK)(_E:XK):Prop
 |mk (B:Hp) (c:Addr) (s:Sf84.S):vs=[.ref c]->cy C CF B H c s->Good s->s.saved.length<=1000000->Ans C CF B c (Sf84.does s .save) Q->EL C CF vs H Q _E
theorem Fm(F:bU K "tell_file" "Capture.tell_file" gc f fd)(T:aX K mg C)(N:ml mg)(mD:mg "file_of_frames"=some (.ref fD))(cD:Calls aV P w K mg fD 3 (tX CF)):aP P w K mg base aV 4 f fd ["self"] (EL C CF):=by
 refine F.ok i8 (λvs H Q E h=>?_) (λbG A outer s H vs Q E hr h=>?_)
 ·obtain⟨B,c,s,rfl,_⟩:=h;rfl
 ·obtain⟨B,c,s,rfl,X,G,hlen,k⟩:=h;have nd:=i8.nd;obtain⟨dx,fa,sa,as,iA,XX⟩:=id X;refine⟨_,ae (aB (i:=1) nd rfl (Or.inl rfl) (aR cD mD hr aE (aa (aD (pv 0) rfl) aj)))
   (ag (aq (bb gi (aY (aa (dX N.len (pv 1)) aj)) (pv 1)))),?_⟩
  refine⟨_,rfl,c,C,dx,_,_,rfl,XX.ob,T.cl,T.nF,p7 _ _ _,fa,as,s.ring,rfl,XX.fl,XX.fr.imp (λ_ _=>trivial),λk hk=>(G.ring k hk).1,hlen,λH1 l1 s1 _ h1=>?_⟩;refine⟨_,rfl,l1,_,rfl,.inl (bp.of h1),one_le,λl2 h2=>?_⟩;have s2:=aA (o:=.lst [V.int (((nums (fileOf s.ring)).map vN).length:Int)]) h2;refine⟨_,rfl,l2,l1,_,_,rfl,rfl,af,s2 _ _ h1,by rw[aH,gk];have:(fileOf s.ring).length<=1000000:=hlen;exact dH (by simp;omega),λl3 h3=>?_⟩;refine k _ l3 (((X.same s1).same s2).same (aA h3)) (((X.same s1).same s2).sm.free h3) ?_;rw[af,aH,gk,<-jK];rfl
end
theorem jH(s:Sf84.S)(z:Int):(dr z=false/\Nk s z= -1)\/(dr z=true/\s.program z.toNat=none/\Nk s z= -2)\/∃code,dr z=true/\s.program z.toNat=some code/\Nk s z=0:=by
 unfold Nk;cases hz:dr z with
 |false=>exact .inl ⟨rfl,rfl⟩
 |true=>
  cases hp:s.program z.toNat with
  |none=>exact .inr (.inl ⟨rfl,rfl,rfl⟩)
  |some code=>exact .inr (.inr ⟨code,rfl,rfl,rfl⟩)
theorem Om(h:Sf84.fault c=none):c.length<=256:=by
 obtain⟨ht,S⟩:=zr h;exact S.most
section
variable {C CF:Addr} {B H:Hp} {c dx fa sa:Addr} {pv:List V} {s:Sf84.S} {q:Raw}
theorem E_(X:eB C CF B H c (raw s) dx fa sa as pv)(G:Good s){code:Sf84.Code}(hz:dr z=true)(hp:s.program z.toNat=some code):∃p rs,O6 pv z=some (.ref p)/\bC H p code rs/\Off B c fa sa p/\∀r∈rs,Off B c fa sa r:=by
 have T5:=(d_ z).mp hz;obtain⟨v,hv,hg⟩:=LW X G (k:=z.toNat) (by omega);rw[hp]at hg;obtain⟨p,rs,rfl,hc,o1,o2⟩:=hg;exact⟨p,rs,by rw[show z=((z.toNat:Nat):Int) by omega];exact bW hv,hc,o1,o2⟩
theorem QJ{α β:Type}{F:α->β->Prop}{a:α}{b:β}:∀{l:List α} {m:List β} (i:Nat),Paired F l m->F a b->Paired F (l.set i a) (m.set i b)
 |_,_,_,.nil,_=>.nil
 |_,_,0,.cons _ t,h=>.cons h t
 |_,_,i+1,.cons x t,h=>.cons x (QJ i t h)
theorem eB.slot(X:eB C CF B H c q dx fa sa as pv){v:V}{o:Option Sf84.Code}(k:Nat)(h:sY (Off B c fa sa) H v o):eB C CF B (upd H sa (.lst (pv.set k v))) c {q with zV:=q.zV.set k o} dx fa sa as (pv.set k v):=by
 have nc:=X.nc;have mv:∀b u,Off B c fa sa b->H b=some u->upd H sa (.lst (pv.set k v)) b=some u:=λb u o e=>(ao o.2.2.2).trans e
 refine⟨(ao nc.2).trans X.ob,(ao X.Sy).trans X.fl,X.fr.move mv,af,QJ k (iN (λ_ _ h=>h.move mv) X.pg) (h.move mv),X.Sy,X.bc,X.bf,X.bs,λb u e=>?_,X.bi⟩;rw[ao (au e X.bs)];exact X.sm b u e
end
theorem AS(hz:dr z=true)(hn:n=16):Pw n z=some z.toNat:=by
 have h:=(d_ z).mp hz;rw[show z=((z.toNat:Nat):Int) by omega,Int.toNat_natCast];exact FV (by omega)
theorem FE(h:b=true)(h1: -1<=z)(h2:z<=15):¬(b=false\/z< -1\/15<z):=by
 rw[h]
 rintro(q|q|q)
 ·cases q
 ·omega
 ·omega
def JM(x:Nat×Nat):List Nat:=[x.1,x.2]
section
variable {C CF:Addr}
inductive qv(C CF:Addr)(vs:List V)(H:Hp)(Q:VK)(_E:XK):Prop
 |mk (B:Hp) (c:Addr) (s:Sf84.S) (z:Int):vs=[.ref c,.int z]->cy C CF B H c s->Good s->Ans C CF B c (Sf84.does s (.program z)) Q->qv C CF vs H Q _E
theorem F_(s:Sf84.S)(z:Int):Sf84.does s (.program z)=(s,if dr z=false then Sf84.says (-1)else match s.program z.toNat with|some c=>(⟨c.length,c.flatMap JM⟩:Sf84.Ans)|none=>Sf84.says (-2)):=by
 show(s,if Sf84.within z 0 15=false then Sf84.says (-1)else match s.program z.toNat with|some c=>(⟨c.length,c.flatMap JM⟩:Sf84.Ans)|none=>Sf84.says (-2))=_;rw[eX]
theorem x_(F:bU K "tell_program" "Capture.tell_program" eG f fd)(T:aX K mg C)(N:ml mg)(M:bh aV P w K mg C "refusal_of" 2 (ft C CF)):aP P w K mg base aV 3 f fd ["self","slot"] (qv C CF):=by
 refine F.ok gO (λvs H Q E h=>?_) (λbG A outer s H vs Q E hr h=>?_)
 ·obtain⟨B,c,s,z,rfl,_⟩:=h;rfl
 ·obtain⟨B,c,s,z,rfl,X,G,k⟩:=h;have nd:=gO.nd;obtain⟨dx,fa,sa,as,iA,XX⟩:=id X;refine⟨_,ae (aB (i:=2) nd rfl (Or.inl rfl) (dj M T.cl (pv 0) hr aE (aa (pv 1) aj)))
   (ae (a7 (aF j0 (pv 2) (cI N.nr) (aK _)) (ag (aq (aY (aa (pv 2) aj)))) aJ)
   (ae (aB (i:=3) nd rfl (Or.inl rfl) (bu bq (aD (pv 0) rfl) (pv 1) (λ_ _=>rfl)))
   (ae (aB (i:=4) nd rfl (Or.inl rfl) (aY (aa (dX N.len (pv 3)) aj)))
   (ae (gF PassesOwn.never rfl (dG (pv 3)) (bR (i:=5) nd rfl (Or.inl rfl)) (ag (aU (lZ PySem.F.plainAttrs_list PySem.F.slot_list_extend PySem.F.type_list_extend TU (pv 4) (aa (pv 5) aj)))))
   (ag (aq (pv 4))))))),?_⟩
  refine⟨_,rfl,c,dx,_,rfl,XX.ob,cn _ _ _ (by decide +kernel),_,rfl,B,c,s,z,rfl,X,G,?_⟩;rw[F_]at k;rcases jH s z with⟨hz,er⟩|⟨hz,hp,er⟩|⟨code,hz,hp,er⟩
  ·rw[er];exact⟨_,rfl,rfl,_,rfl,cu rfl ⟨_,rfl,one_le,aZ k (by rw[ai hz]) X⟩⟩
  ·rw[er];exact⟨_,rfl,rfl,_,rfl,cu rfl ⟨_,rfl,one_le,aZ k (by rw[ah (by rw[hz];exact Bool.noConfusion),hp]) X⟩⟩
  ·rw[er];refine⟨_,rfl,rfl,_,rfl,cx (by decide) ?_⟩;obtain⟨p,rs,Zu,hc,o1,o2⟩:=E_ XX G hz hp;refine⟨_,rfl,c,C,dx,_,_,rfl,XX.ob,T.cl,T.TN,pZ _ _ _,_,rfl,sa,_,z,_,rfl,rfl,bp.of XX.sl,Zu,?_⟩;refine⟨_,rfl,p,_,rfl,.inl (bp.of hc.lst),one_le,λt ht=>?_⟩;have hfl:=Om (G.pf _ _ hp);have s1:=aA (o:=.lst [V.int ((rs.map V.ref).length:Int)]) ht;refine⟨_,rfl,p,rfl,⟨_,bp.of (s1 _ _ hc.lst)⟩,je (K:=K) (a:=p) (xs:=rs.map V.ref) (λi σ H'=>∃v:Option V,σ=[some (.ref c),some (.int z),some (.int 0),some (.ref p),some (.ref t),v]/\H' t=some (.lst (vN code.length::((code.take i).flatMap JM).map vN))/\a9 H H')
    ⟨none,rfl,?_,s1⟩ (λi σ H' _ ⟨_,_,_,s2⟩=>bp.of (s2 _ _ hc.lst)) ?_ ?_⟩
   ·rw[af,aH,hc.len];rfl
   ·rintro i y σ H2 hi ⟨v,rfl,h2,s2⟩
    obtain⟨r,Py,rfl⟩:=iV hi;have hic:i<code.length:=by rw[<-hc.len];exact(List.getElem?_eq_some_iff.mp Py).1
    have Xv:code[i]? =some code[i]:=bx hic;have vw:=hc.at_ i r _ Py Xv;have hl:((code.take i).flatMap JM).length<=2*i:=by
     rw[List.length_flatMap];have:((code.take i).map λa=>(JM a).length)=List.replicate (code.take i).length 2:=by
      rw[List.eq_replicate_iff];exact⟨by rw[aH],λb hb=>by obtain⟨x,_,rfl⟩:=List.mem_map.mp hb;rfl⟩
     rw[this,List.sum_replicate_nat,bE];omega
    refine⟨_,rfl,.inl ⟨rfl,_,bp.of h2⟩,_,rfl,t,r,_,_,rfl,rfl,h2,s2 _ _ vw,by rw[di,aH];exact dH (by show _+1+2<=_;omega),?_⟩;refine⟨_,rfl,?_,bY s2 ht⟩;rw[af,eU Xv,List.flatMap_append,bH];simp[JM]
   ·rintro σ H2 ⟨v,rfl,h2,s2⟩
    rw[aH,hc.len,List.take_length]at h2;refine⟨_,rfl,k H2 t (X.same s2) (X.sm.free ht) ?_⟩;rw[ah (by rw[hz];exact Bool.noConfusion),hp,h2];show _=some (HO.lst (V.int ((code.length:Nat):Int)::((code.flatMap JM).map λ(n:Nat)=>(n:Int)).map V.int));rw[jK]
inductive yI(C CF:Addr)(vs:List V)(H:Hp)(Q:VK)(_E:XK):Prop
 |mk (B:Hp) (c:Addr) (s:Sf84.S) (z:Int):vs=[.ref c,.int z]->cy C CF B H c s->Good s->Ans C CF B c (Sf84.does s (.clear z)) Q->yI C CF vs H Q _E
theorem A5(s:Sf84.S)(z:Int):Sf84.does s (.clear z)=if dr z=false then(s,Sf84.says (-1))else if(s.program z.toNat).isNone=true then(s,Sf84.says (-2))else if s.gate=some z.toNat then(s,Sf84.says (-4))else({s with programs:=s.programs.set z.toNat none},Sf84.says 0):=by
 show(if Sf84.within z 0 15=false then _ else _)=_;rw[eX]
theorem Cf(F:bU K "clear_slot" "Capture.clear_slot" fg f fd)(T:aX K mg C)(N:ml mg)(M:bh aV P w K mg C "refusal_of" 2 (ft C CF)):aP P w K mg base aV 3 f fd ["self","slot"] (yI C CF):=by
 refine F.ok iD (λvs H Q E h=>?_) (λbG A outer s H vs Q E hr h=>?_)
 ·obtain⟨B,c,s,z,rfl,_⟩:=h;rfl
 ·obtain⟨B,c,s,z,rfl,X,G,k⟩:=h;have nd:=iD.nd;obtain⟨dx,fa,sa,as,iA,XX⟩:=id X;refine⟨_,ae (aB (i:=2) nd rfl (Or.inl rfl) (dj M T.cl (pv 0) hr aE (aa (pv 1) aj)))
   (ae (a7 (aF j0 (pv 2) (cI N.nr) (aK _)) (ag (aq (aY (aa (pv 2) aj)))) aJ)
   (ae (a7 (aF dg (pv 1) (aD (pv 0) rfl) (aK _)) (ag (aq (aY (aa (cI N.ig) aj)))) aJ)
   (ae (zU gG (zX (aD (pv 0) rfl) (pv 1) set_list)) (ag (aq (aY (aa ay aj))))))),?_⟩
  refine⟨_,rfl,c,dx,_,rfl,XX.ob,cn _ _ _ (by decide +kernel),_,rfl,B,c,s,z,rfl,X,G,?_⟩;rw[A5]at k;rcases jH s z with⟨hz,er⟩|⟨hz,hp,er⟩|⟨code,hz,hp,er⟩
  ·rw[er];exact⟨_,rfl,rfl,_,rfl,cu rfl ⟨_,rfl,one_le,aZ k (by rw[ai hz]) X⟩⟩
  ·rw[er];exact⟨_,rfl,rfl,_,rfl,cu rfl ⟨_,rfl,one_le,aZ k (by rw[ah (by rw[hz];exact Bool.noConfusion),hp];rfl) X⟩⟩
  ·rw[er];refine⟨_,rfl,rfl,_,rfl,cx (by decide) ?_⟩;rw[ah (by rw[hz];exact Bool.noConfusion),hp,ah (show ¬(some code).isNone=true from az)]at k;have T5:=(d_ z).mp hz;refine⟨_,rfl,_,rfl,c,C,dx,_,_,rfl,XX.ob,T.cl,T.Xm,R6 _ _ _,rfl,_,rfl,?_⟩;have eg:decide (V.int z=V.int (xI s.gate))=decide (s.gate=some z.toNat):=by
    apply bN;rw[aI,aI];cases hg:s.gate with
    |none=>
     refine⟨λh=>?_,λh=>by cases h⟩;have:z= -1:=V.int.inj h;omega
    |some n=>
     refine⟨λh=>?_,λh=>?_⟩
     ·have:z=(n:Int):=V.int.inj h;rw[this];rfl
     ·have:n=z.toNat:=aO h;show V.int z=V.int (n:Int);rw[this]
      congr 1
      omega
   show if decide (V.int z=V.int (xI s.gate))=true then _ else _
   rw[eg];by_cases hg:s.gate=some z.toNat
   ·exact cu (aN hg) ⟨one_le,aZ k (by rw[ai hg]) X⟩
   ·refine cx (by rw[aQ hg];exact az) ?_;rw[ah hg]at k;have X2:=XX.slot (v:=.dt) (o:=none) z.toNat rfl;refine⟨_,rfl,c,C,dx,_,_,rfl,XX.ob,T.cl,T.TN,pZ _ _ _,_,rfl,sa,_,z,z.toNat,rfl,rfl,XX.sl,AS hz (by rw[Paired.length XX.pg];exact G.pl),?_⟩;exact⟨one_le,aZ k rfl ⟨dx,fa,sa,as,_,X2⟩⟩
inductive EU(C CF:Addr)(vs:List V)(H:Hp)(Q:VK)(_E:XK):Prop
 |mk (B:Hp) (c:Addr) (s:Sf84.S) (z:Int):vs=[.ref c,.int z]->cy C CF B H c s->Good s->Ans C CF B c (Sf84.does s (.gate z)) Q->EU C CF vs H Q _E
theorem HV(F:bU K "set_gate" "Capture.set_gate" gA f fd)(T:aX K mg C)(N:ml mg)(M:bh aV P w K mg C "refusal_of" 2 (ft C CF)):aP P w K mg base aV 3 f fd ["self","slot"] (EU C CF):=by
 refine F.ok js (λvs H Q E h=>?_) (λbG A outer s H vs Q E hr h=>?_)
 ·obtain⟨B,c,s,z,rfl,_⟩:=h;rfl
 ·obtain⟨B,c,s,z,rfl,X,G,k⟩:=h;have nd:=js.nd;obtain⟨dx,fa,sa,as,iA,XX⟩:=id X;refine⟨_,ae (a7 (du (dc (aD (pv 0) rfl))) (ag (aq (aY (aa (cI N.na) aj)))) aJ)
   (ae (aB (i:=2) nd rfl (Or.inl rfl) (dA (aF dg (pv 1) (cI N.ng) (aK _)) (cI N.nr) (dj M T.cl (pv 0) hr aE (aa (pv 1) aj))))
   (ae (a7 (aF j0 (pv 2) (cI N.nr) (aK _)) (ag (aq (aY (aa (pv 2) aj)))) aJ)
   (ae (cv (pv 0) (pv 1) rfl) (ag (aq (aY (aa ay aj))))))),?_⟩
  have ed:Sf84.does s (.gate z)=if s.isOpen=false\/z< -1\/15<z then(s,Sf84.says (-1))else if z= -1 then({s with gate:=none},Sf84.says 0)else if(s.program z.toNat).isNone=true then(s,Sf84.says (-2))else({s with gate:=some z.toNat},Sf84.says 0):=rfl
  rw[ed]at k;refine⟨_,rfl,c,C,dx,_,_,rfl,XX.ob,T.cl,T.nO,Be _ _ _,_,rfl,?_⟩;show if(!s.isOpen)=true then _ else _
  cases ho:s.isOpen with
  |false=>exact cu rfl ⟨one_le,aZ k (by rw[ai (.inl ho)]) X⟩
  |true=>
   refine cx az ?_;refine⟨_,rfl,rfl,_,rfl,?_⟩;have e1:decide (V.int z=V.int (-1))=decide (z= -1):=by
    apply bN;rw[aI,aI];exact⟨λh=>V.int.inj h,λh=>by rw[h]⟩
   rw[e1];by_cases hm:z= -1
   ·refine cu (aN hm) ?_;refine⟨_,rfl,rfl,_,rfl,cx (by decide) ?_⟩;rw[ah (FE ho (by omega) (by omega)),ai hm]at k;refine⟨_,rfl,_,rfl,c,C,dx,_,rfl,XX.ob,T.cl,T.Xm,iw _ _ _,one_le,?_⟩;rw[R5];refine aZ k rfl ⟨dx,fa,sa,as,iA,?_⟩;have:=XX.put (q':={raw s with g:=z}) rfl rfl;rw[hm]at this ⊢;exact this
   ·refine cx (by rw[aQ hm];exact az) ?_;refine⟨_,rfl,c,dx,_,rfl,XX.ob,cn _ _ _ (by decide +kernel),_,rfl,B,c,s,z,rfl,X,G,?_⟩;rcases jH s z with⟨hz,er⟩|⟨hz,hp,er⟩|⟨code,hz,hp,er⟩
    ·rw[er];have T5:¬(0<=z/\z<16):=λh=>by rw[(d_ z).mpr h]at hz;cases hz
     exact⟨_,rfl,rfl,_,rfl,cu rfl ⟨_,rfl,one_le,aZ k (by rw[ai (.inr (by omega))]) X⟩⟩
    ·rw[er];have T5:=(d_ z).mp hz;exact⟨_,rfl,rfl,_,rfl,cu rfl ⟨_,rfl,one_le,aZ k (by rw[ah (FE ho (by omega) (by omega)),ah hm,hp];rfl) X⟩⟩
    ·rw[er];have T5:=(d_ z).mp hz;refine⟨_,rfl,rfl,_,rfl,cx (by decide) ?_⟩;rw[ah (FE ho (by omega) (by omega)),ah hm,hp,ah (show ¬(some code).isNone=true from az)]at k;refine⟨_,rfl,_,rfl,c,C,dx,_,rfl,XX.ob,T.cl,T.Xm,iw _ _ _,one_le,?_⟩;rw[R5];refine aZ k rfl ⟨dx,fa,sa,as,iA,?_⟩;have e3:raw {s with gate:=some z.toNat}={raw s with g:=z}:=by
      unfold raw xI;simp only
      congr 1
      omega
     rw[e3];exact XX.put rfl rfl
end
theorem xJ(b:Bytes):Sf84.frameOk b=j6 (b.length:Int):=by
 apply bN;unfold Sf84.frameOk j6;rw[bj,bj,aI,aI,aI];cases b with
 |nil=>simp
 |cons x b=>simp;omega
theorem AK(n:Int):j6 n=true↔1<=n/\n<=1518:=by
 unfold j6;rw[bj,aI,aI]
theorem Sh(h:n<=100000):n<Sf84.W:=gX h (by decide)
def Pr:List Nat->Sf84.Code
 |a::b::r=>(a,b)::Pr r
 |_=>[]
theorem DL:∀ns:List Nat,Sf84.pairs (ns.map λ(n:Nat)=>(n:Int))=if ns.length % 2=0 then some (Pr ns)else none
 |[]=>rfl
 |[a]=>rfl
 |a::b::r=>by
  show(if(a:Int)<0\/(b:Int)<0 then none else(Sf84.pairs (r.map λ(n:Nat)=>(n:Int))).map λc=>((a:Int).toNat,(b:Int).toNat)::c)=_;rw[ah (by omega),DL r];have e:(a::b::r).length % 2=r.length % 2:=by show(r.length+2) % 2=_;omega
  rw[e];by_cases h:r.length % 2=0
  ·rw[ai h,ai h];rfl
  ·rw[ah h,ah h];rfl
theorem L7:∀ns:List Nat,(Pr ns).length=ns.length / 2
 |[]=>rfl
 |[a]=>by simp[Pr]
 |a::b::r=>by
  show(Pr r).length+1=(r.length+2) / 2;rw[L7 r];omega
theorem Qv:∀(ns:List Nat) (i x y:Nat),ns[2*i]? =some x->ns[2*i+1]? =some y->(Pr ns)[i]? =some (x,y)
 |[],i,x,y,h,_=>by simp at h
 |[a],0,x,y,_,h=>by simp at h
 |[a],i+1,x,y,h,_=>by rw[show 2*(i+1)=2*i+1+1 by omega]at h;simp at h
 |a::b::r,0,x,y,h1,h2=>by
  have e1:a=x:=aO h1;have e2:b=y:=aO h2;subst e1 e2;rfl
 |a::b::r,i+1,x,y,h1,h2=>by
  have e:2*(i+1)=2*i+1+1:=by omega
  rw[e]at h1 h2;exact Qv r i x y h1 h2
theorem N1{lo c:Int}{g:TG}{tt:TT}{te:TE}{vs:List Nat}{σ:L2.St}{H1:Hp}{D:Addr}{Qd:Hp->Prop}(Pv:Nat->Hp->Prop)(h0:Pv 0 (upd H1 D (.lst [])))
  (hs:∀i H,i<n->Pv i H->g (.int (lo+(i:Nat)*c)) (wipe σ vs) H λσ2 H2=>wipe σ2 vs=wipe σ vs/\tt σ2 H2 λb H3=>
   if b=true then te σ2 H3 λy H4=>∃acc,H4 D=some (.lst acc)/\acc.length<sizeLine/\Pv (i+1) (upd H4 D (.lst (acc++[y])))else Pv (i+1) H3) (hd:∀H,Pv n H->Qd H):
  ∃W:Nat->Nat->Hp->Prop,(∃m,W 0 m (upd H1 D (.lst [])))/\∀i m H,W i m H->
   ((Vf lo c n).stop i H/\Qd H)\/((Vf lo c n).go i H/\∃Nx:Hp->Prop,(∀H',Nx H'->∃m',m'<m/\W (i+1) m' H')/\∀x H',(Vf lo c n).Pk i H x H'->g x (wipe σ vs) H' λσ2 H2=>wipe σ2 vs=wipe σ vs/\tt σ2 H2 λb H3=>
    if b=true then te σ2 H3 λy H4=>∃acc,H4 D=some (.lst acc)/\acc.length<sizeLine/\Nx (upd H4 D (.lst (acc++[y])))else Nx H3):=by
 refine⟨λi m H=>m=n - i/\i<=n/\Pv i H,⟨n,by simp,bw _,h0⟩,?_⟩
 rintro i m H ⟨rfl,hi,p⟩
 by_cases eP:i<n
 ·refine .inr ⟨eP,Pv (i+1),λH' p'=>⟨n - (i+1),by omega,rfl,eP,p'⟩,λx H' y=>?_⟩;obtain⟨e,y⟩:=y;subst e y;exact hs i _ eP p
 ·have e:i=n:=by omega
  subst e;exact .inl ⟨aM _,hd H p⟩
theorem bC.snoc{r:Addr}{x:Nat×Nat}(hc:∀(i:Nat) r x,rs[i]? =some r->c[i]? =some x->mi H r x)(hl:rs.length=c.length)(h:H a=some (.lst ((rs++[r]).map V.ref)))(hr:mi H r x):bC H a (c++[x]) (rs++[r]):=by
 refine⟨h,by rw[ba,ba,hl];rfl,λi b y h1 h2=>?_⟩;by_cases hi:i<rs.length
 ·rw[gY hi]at h1;rw[gY (by rw[<-hl];exact hi)]at h2;exact hc i b y h1 h2
 ·have JF:rs.length<=i:=Ew hi;rw[jy JF]at h1;rw[jy (by rw[<-hl];exact JF),<-hl]at h2;have h0:i - rs.length=0:=by
   have:=(List.getElem?_eq_some_iff.mp h1).1;simp at this;omega
  rw[h0]at h1 h2;cases h1;cases h2;exact hr
theorem Hy:ax ["self","slot","numbers","program","wrong","place"] ["self","slot","numbers"] (ak eJ):=⟨rfl,rfl,rfl,by decide +kernel,rfl,by decide +kernel,by decide +kernel⟩
section
variable {C CF:Addr}
inductive EV(C CF:Addr)(vs:List V)(H:Hp)(Q:VK)(_E:XK):Prop
 |mk (B:Hp) (c ra:Addr) (s:Sf84.S) (z:Int) (b:Bytes):vs=[.ref c,.int z,.ref ra]->cy C CF B H c s->Good s->dI B ra b->b.length<=1600->Ans C CF B c (Sf84.does s (.fits z b)) Q->EV C CF vs H Q _E
theorem OA(s:Sf84.S)(z:Int)(b:Bytes):Sf84.does s (.fits z b)=(s,if dr z=false\/j6 (b.length:Int)=false then Sf84.says (-1)else match s.program z.toNat with|some c=>Sf84.says (if c.says b=true then 1 else 0)|none=>Sf84.says (-2)):=by
 show(s,if Sf84.within z 0 15=false\/Sf84.frameOk b=false then Sf84.says (-1)else match s.program z.toNat with|some c=>Sf84.says (if c.says b=true then 1 else 0)|none=>Sf84.says (-2))=_;rw[eX,xJ]
theorem fQ{a:Bool}(h1:a=true)(h2:b=true):¬(a=false\/b=false):=by
 rw[h1,h2]
 rintro(q|q)<;>cases q
theorem Fj(F:bU K "try_frame" "Capture.try_frame" gb f fd)(T:aX K mg C)(N:ml mg)(M:bh aV P w K mg C "refusal_of" 2 (ft C CF))(mL:mg "is_length"=some (.ref fL))(cL:Calls aV P w K mg fL 1 qx)
  (mY:mg "says_yes"=some (.ref fY)) (cY:Calls aV P w K mg fY 4 rK):aP P w K mg base aV 5 f fd ["self","slot","frame"] (EV C CF):=by
 refine F.ok i7 (λvs H Q E h=>?_) (λbG A outer s H vs Q E hr h=>?_)
 ·obtain⟨B,c,ra,s,z,b,rfl,_⟩:=h;rfl
 ·obtain⟨B,c,ra,s,z,b,rfl,X,G,hb,Mq,k⟩:=h;have nd:=i7.nd;obtain⟨dx,fa,sa,as,iA,XX⟩:=id X;have SE:=X.sm _ _ hb;refine⟨_,ae (aB (i:=3) nd rfl (Or.inl rfl) (dA (dc (aR cL mL (hr.mono (by decide)) aE (aa (dX N.len (pv 2)) aj))) (dj M T.cl (pv 0) (hr.mono (by decide)) aE (aa (pv 1) aj)) (cI N.na)))
   (ae (a7 (aF j0 (pv 3) (cI N.nr) (aK _)) (ag (aq (aY (aa (pv 3) aj)))) aJ)
   (ag (aq (aY (aa (dA (dc (aR cY mY hr aE (aa (bu bq (aD (pv 0) rfl) (pv 1) (λ_ _=>rfl)) (aa (pv 2) aj)))) ay ay) aj))))),?_⟩
  rw[OA]at k;refine⟨_,rfl,ra,_,rfl,.inl (bp.of SE),_,rfl,_,rfl,?_⟩;rw[dq];cases hL:j6 (b.length:Int)with
  |false=>
   refine cx az ?_;exact⟨_,rfl,rfl,_,rfl,cu rfl ⟨_,rfl,one_le,aZ k (by rw[ai (.inr hL)]) X⟩⟩
  |true=>
   refine cu rfl ?_;refine⟨_,rfl,c,dx,_,rfl,XX.ob,cn _ _ _ (by decide +kernel),_,rfl,B,c,s,z,rfl,X,G,?_⟩;rcases jH s z with⟨hz,er⟩|⟨hz,hp,er⟩|⟨code,hz,hp,er⟩
   ·rw[er];exact⟨_,rfl,rfl,_,rfl,cu rfl ⟨_,rfl,one_le,aZ k (by rw[ai (.inl hz)]) X⟩⟩
   ·rw[er];exact⟨_,rfl,rfl,_,rfl,cu rfl ⟨_,rfl,one_le,aZ k (by rw[ah (fQ hz hL),hp]) X⟩⟩
   ·rw[er];refine⟨_,rfl,rfl,_,rfl,cx (by decide) ?_⟩;rw[ah (fQ hz hL),hp]at k;obtain⟨p,rs,Zu,hc,o1,o2⟩:=E_ XX G hz hp;refine⟨_,rfl,c,C,dx,_,_,rfl,XX.ob,T.cl,T.TN,pZ _ _ _,_,rfl,sa,_,z,_,rfl,rfl,bp.of XX.sl,Zu,_,rfl,p,ra,code,rs,b,rfl,hc,G.pf _ _ hp,SE,Sh (by omega),λH1 s1=>⟨_,rfl,?_⟩⟩;cases hs:Sf84.Code.says code b with
    |true=>
     refine cu rfl ⟨one_le,aZ k ?_ (X.same s1)⟩;dsimp only;rw[hs];rfl
    |false=>
     refine cx az ⟨one_le,aZ k ?_ (X.same s1)⟩;dsimp only;rw[hs];rfl
end
theorem IK(h:Sf84.fault c=none):c≠[]:=by
 obtain⟨ht,S⟩:=zr h;exact S.ne
section
variable {C CF:Addr}
theorem Eg(s:Sf84.S)(z:Int)(l:List Int):Sf84.does s (.load z l)=if s.isOpen=false\/dr z=false then(s,Sf84.says (-1))else match Sf84.pairs l with
  |none=>(s,Sf84.says (-1))
  |some c=>match Sf84.fault c with
   |some p=>(s,Sf84.says (-10 - (p:Int)))
   |none=>({s with programs:=s.programs.set z.toNat (some c)},Sf84.says c.length):=by
 show(if s.isOpen=false\/Sf84.within z 0 15=false then _ else _)=_;rw[eX];rfl
inductive EO(C CF:Addr)(vs:List V)(H:Hp)(Q:VK)(_E:XK):Prop
 |mk (B:Hp) (c na:Addr) (s:Sf84.S) (z:Int) (ns:List Nat):vs=[.ref c,.int z,.ref na]->cy C CF B H c s->Good s->B na=some (.lst (ns.map vN))->ns.length<=600->(Ans C CF B c (Sf84.does s (.load z (ns.map λ(n:Nat)=>(n:Int)))) Q)->EO C CF vs H Q _E
theorem yc(F:bU K "load_program" "Capture.load_program" eJ f fd)(T:aX K mg C)(N:ml mg)(mS:mg "is_slot"=some (.ref fS))(cS:Calls aV P w K mg fS 1 vA)
  (mW:mg "wrong_place"=some (.ref fW)) (cW:Calls aV P w K mg fW 2 tQ):aP P w K mg base aV 3 f fd ["self","slot","numbers"] (EO C CF):=by
 refine F.ok Hy (λvs H Q E h=>?_) (λbG A outer s H vs Q E hr h=>?_)
 ·obtain⟨B,c,na,s,z,ns,rfl,_⟩:=h;rfl
 ·obtain⟨B,c,na,s,z,ns,rfl,X,G,hb,Mq,k⟩:=h;have nd:=Hy.nd;obtain⟨dx,fa,sa,as,iA,XX⟩:=id X;have hn:=X.sm _ _ hb;refine⟨_,ae (a7 (PW.pt (jb (du (dc (aD (pv 0) rfl))) (jb (du (dc (aR cS mS (hr.mono (by decide)) aE (aa (pv 1) aj)))) (lF (aF j0 (bb vW (dX N.len (pv 2)) ay) ay (aK _)))))) (ag (aq (aY (aa (cI N.na) aj)))) aJ)
   (ae (zT (i:=3) (own:=[("place",5)]) rfl nd rfl rfl (EC rfl rfl rfl rfl) (DI rfl N.Pq (aa ay (aa (dX N.len (pv 2)) (aa ay aj)))) (eO rfl) (λs H C cl fp=>bR (i:=5) nd rfl (Or.inl rfl)) (λs H C cl fp=>iT)
    (λs H C cl fp=>jn (aa (bu (r:=Qr K) bq (pv 2) (pv 5) (λ_ _=>rfl)) (aa (bu (r:=Qr K) bq (pv 2) (bb ck (pv 5) ay) (λ_ _=>rfl)) aj))))
   (ae (aB (i:=4) nd rfl (Or.inl rfl) (aR cW mW hr aE (aa (pv 3) aj)))
   (ae (a7 (aF uy (pv 4) ay (aK _)) (ag (aq (aY (aa (bb vV (cI N.wf) (pv 4)) aj)))) aJ)
   (ae (zU (pv 3) (zX (aD (pv 0) rfl) (pv 1) set_list)) (ag (aq (aY (aa (dX N.len (pv 3)) aj)))))))),?_⟩
  rw[Eg,DL]at k;refine⟨_,rfl,c,C,dx,_,_,rfl,XX.ob,T.cl,T.nO,Be _ _ _,_,rfl,?_⟩;show if(!s.isOpen)=true then _ else _
  cases ho:s.isOpen with
  |false=>exact cu rfl (cu rfl ⟨one_le,aZ k (by rw[ai (.inl ho)]) X⟩)
  |true=>
  refine cx az ?_;refine⟨_,rfl,z,rfl,_,rfl,?_⟩;cases hz:dr z with
  |false=>exact cu rfl (cu rfl ⟨one_le,aZ k (by rw[ai (.inr hz)]) X⟩)
  |true=>
  refine cx az ?_;rw[ah (fQ ho hz)]at k;refine⟨_,rfl,na,_,rfl,.inl (bp.of hn),_,_,rfl,rfl,(by show(0:Int)<2;decide),rfl,_,rfl,?_⟩;rw[aH];by_cases he:ns.length % 2=0
  rotate_left
  ·refine cu ?_ ⟨one_le,aZ k (by rw[ah he]) X⟩;have:¬V.int ((ns.length:Int) % 2)=V.int 0:=λq=>by
    have:=V.int.inj q;omega
   show(!decide (V.int ((ns.length:Int) % 2)=V.int 0))=true;rw[aQ this];rfl
  refine cx ?_ ?_
  ·have:V.int ((ns.length:Int) % 2)=V.int 0:=congrArg V.int (by omega);show ¬(!decide (V.int ((ns.length:Int) % 2)=V.int 0))=true;rw[aN this];exact az
  rw[ai he]at k;dsimp only at k;have uT:=L7 ns;refine⟨_,rfl,na,_,rfl,.inl (bp.of hn),_,_,_,_,rfl,by rw[aH];exact LY (c:=2) (by decide) (by decide) (by omega),λD hD=>?_⟩;refine N1 (λi H'=>∃rs:List Addr,bC H' D ((Pr ns).take i) rs/\a9 H H'/\∀r∈rs,r≠D) ⟨[],bC.nil af,aA hD,λr h=>by cases h⟩ ?_ ?_
  ·rintro i H2 hi ⟨rs,hc,s2,nD⟩
   have JF:2*i+1<ns.length:=by
    have:i<(ns.length+(2 - 1)) / 2:=hi;omega
   have ez:(0:Int)+(i:Nat)*2=((2*i:Nat):Int):=by omega
   rw[ez];have g1:ns[2*i]? =some ns[2*i]:=bx (by omega);have g2:ns[2*i+1]? =some ns[2*i+1]:=bx JF;have hx:=Qv ns i _ _ g1 g2;have hrl:rs.length=i:=by
    rw[hc.len,bE,uT];omega
   refine⟨rfl,rJ ?_⟩;refine⟨_,rfl,_,rfl,na,_,((2*i:Nat):Int),vN ns[2*i],rfl,rfl,bp.of (s2 _ _ hn),bW (by rw[bO,g1];rfl),_,rfl,_,rfl,_,_,rfl,rfl,na,_,((2*i+1:Nat):Int),vN ns[2*i+1],rfl,congrArg V.int (by omega),bp.of (s2 _ _ hn),bW (by rw[bO,g2];rfl),(by show 2<=sizeLine;decide),λt ht=>?_⟩;have s3:=aA (o:=.tup [vN ns[2*i],vN ns[2*i+1]]) ht;have ntD:t≠D:=λq=>by rw[q,hc.lst]at ht;cases ht
   refine⟨_,s3 _ _ hc.lst,by rw[aH,hrl];exact dE (by omega),rs++[t],?_,bY (s2.trans s3) hD,λr hr=>?_⟩
   ·rw[eU hx];refine bC.snoc (λj r x h1 h2=>?_) hc.len (by rw[af,bH];rfl) ?_
    ·show(upd _ D _) r=_;rw[ao (nD r (d7 h1))];exact s3 _ _ (hc.at_ j r x h1 h2)
    ·show(upd _ D _) t=_;rw[ao ntD];exact af
   ·rcases List.mem_append.mp hr with h|h
    ·exact nD r h
    ·rw[List.mem_singleton.mp h];exact ntD
  ·rintro H2 ⟨rs,hc,s2,_⟩
   have et:(Pr ns).take ((ns.length+(2 - 1)) / 2)=Pr ns:=eD (by rw[uT];omega);rw[et]at hc;refine⟨_,rfl,D,Pr ns,rs,rfl,hc,λH3 s3=>?_⟩;have Ud:=hc.same s3;have X3:=(XX.same s2).same s3;refine⟨_,rfl,_,_,rfl,rfl,_,rfl,?_⟩;unfold lL;cases hf:Sf84.fault (Pr ns)with
   |some p=>
    rw[hf]at k;refine cu (by show decide ((0:Int)<=(p:Int))=true;exact aN (by omega)) ?_;exact⟨_,rfl,_,_,rfl,rfl,one_le,aZ k rfl ⟨dx,fa,sa,as,iA,X3⟩⟩
   |none=>
    rw[hf]at k;refine cx (by decide) ?_;obtain⟨o1,o2⟩:=X3.code Ud (IK hf);have X4:=X3.slot (v:=.ref D) (o:=some (Pr ns)) z.toNat ⟨D,rs,rfl,Ud,o1,o2⟩;refine⟨_,rfl,_,rfl,c,C,dx,_,_,rfl,X3.ob,T.cl,T.TN,pZ _ _ _,_,rfl,sa,_,z,z.toNat,rfl,rfl,X3.sl,AS hz (by rw[Paired.length X3.pg];exact G.pl),?_⟩;have Zx:(upd H3 sa (.lst (iA.set z.toNat (V.ref D)))) D=some (.lst (rs.map V.ref)):=(ao o1.2.2.2).trans Ud.lst;refine⟨_,rfl,D,_,rfl,.inl (bp.of Zx),one_le,?_⟩;rw[aH,Ud.len];exact aZ k rfl ⟨dx,fa,sa,as,_,X4⟩
end
section
variable {C CF:Addr}
theorem u6(s:Sf84.S)(z:Int)(t:Bytes):Sf84.does s (.compile z t)=if s.isOpen=false\/dr z=false\/1024<t.length then(s,Sf84.says (-1))else match Sf84.read t with
  | .error p=>(s,Sf84.says (-10 - (p:Int)))
  | .ok x=>if(Sf84.fault x.compiled).isSome=true then(s,Sf84.says (-7))else({s with programs:=s.programs.set z.toNat (some x.compiled)},Sf84.says x.compiled.length):=by
 show(if s.isOpen=false\/Sf84.within z 0 15=false\/1024<t.length then _ else _)=_;rw[eX];rfl
inductive qz(C CF:Addr)(vs:List V)(H:Hp)(Q:VK)(_E:XK):Prop
 |mk (B:Hp) (c ta:Addr) (s:Sf84.S) (z:Int) (b:Bytes):vs=[.ref c,.int z,.ref ta]->cy C CF B H c s->Good s->dI B ta b->b.length<=1100->Ans C CF B c (Sf84.does s (.compile z b)) Q->qz C CF vs H Q _E
theorem yg{CE:Addr}(F:bU K "compile_text" "Capture.compile_text" eK f fd)(T:aX K mg C)(N:ml mg)(R:Bq K mg CE N0 fI jD)(mS:mg "is_slot"=some (.ref fS))(cS:Calls aV P w K mg fS 1 vA)
  (mW:mg "wrong_place"=some (.ref fW)) (cW:Calls aV P w K mg fW 2 tQ) (mP:mg "program_of_text"=some (.ref fP)) (cP:Calls (gq P w CE) P w K mg fP 173 EM):aP P w K mg base aV 174 f fd ["self","slot","text"] (qz C CF):=by
 refine F.ok gR (λvs H Q E h=>?_) (λbG A outer s H vs Q E hr h=>?_)
 ·obtain⟨B,c,na,s,z,ns,rfl,_⟩:=h;rfl
 ·obtain⟨B,c,ta,s,z,b,rfl,X,G,hb,Mq,k⟩:=h;have nd:=gR.nd;obtain⟨dx,fa,sa,as,iA,XX⟩:=id X;have hn:=X.sm _ _ hb;refine⟨_,ae (a7 (PW.pt (jb (du (dc (aD (pv 0) rfl))) (jb (du (dc (aR cS mS (hr.mono (by decide)) aE (aa (pv 1) aj)))) (lF (aF ux (dX N.len (pv 2)) (cI N.mt) (aK _)))))) (ag (aq (aY (aa (cI N.na) aj)))) aJ)
   (ae (VM (i:=4) (Ex:=λv oa H'=>∃p:Nat,v= .int (p:Int) 0/\Sf84.read b= .error p/\a9 H H') R rfl rfl nd rfl rfl rfl
    (λpn E' hp=>ag (aB (i:=3) nd rfl (Or.inl rfl) (aR cP mP hr hp (aa (pv 2) aj))))
    (λpn A'=>ag (aq (aY (aa (bb vV (cI N.wf) (QC R (pv 4))) aj)))))
   (ae (a7 (aF uy (aR cW mW (hr.mono (by decide)) aE (aa (pv 3) aj)) ay (aK _)) (ag (aq (aY (aa (cI N.pw) aj)))) aJ)
   (ae (zU (pv 3) (zX (aD (pv 0) rfl) (pv 1) set_list)) (ag (aq (aY (aa (dX N.len (pv 3)) aj))))))),?_⟩
  rw[u6]at k;refine⟨_,rfl,c,C,dx,_,_,rfl,XX.ob,T.cl,T.nO,Be _ _ _,_,rfl,?_⟩;show if(!s.isOpen)=true then _ else _
  cases ho:s.isOpen with
  |false=>exact cu rfl (cu rfl ⟨one_le,aZ k (by rw[ai (.inl ho)]) X⟩)
  |true=>
  refine cx az ?_;refine⟨_,rfl,z,rfl,_,rfl,?_⟩;cases hz:dr z with
  |false=>exact cu rfl (cu rfl ⟨one_le,aZ k (by rw[ai (.inr (.inl hz))]) X⟩)
  |true=>
  refine cx az ?_;refine⟨_,rfl,ta,_,rfl,.inl (bp.of hn),_,_,rfl,rfl,_,rfl,?_⟩;rw[dq];by_cases hl:1024<b.length
  ·exact cu (aN (by omega)) ⟨one_le,aZ k (by rw[ai (.inr (.inr hl))]) X⟩
  refine cx (by rw[aQ (by omega)];exact az) ?_;have Zb:¬(s.isOpen=false\/dr z=false\/1024<b.length):=by
   rw[ho,hz]
   rintro(q|q|q)
   ·cases q
   ·cases q
   ·exact hl q
  rw[ah Zb]at k;refine⟨⟨_,rfl,ta,b,rfl,hn,Mq,λt et H1 p rs s1 hc hlen=>?_,λp ep H1 a s1=>⟨p,rfl,ep,s1⟩⟩,?_⟩
  ·
   rw[et]at k;refine⟨_,rfl,p,t.compiled,rs,rfl,hc,λH3 s3=>?_⟩;have Ud:=hc.same s3;have X3:=(XX.same s1).same s3;refine⟨_,_,rfl,rfl,_,rfl,?_⟩;unfold lL;dsimp only at k;cases hf:Sf84.fault t.compiled with
   |some q=>
    rw[hf,ai (show(some q).isSome=true from rfl)]at k;exact cu (by show decide ((0:Int)<=(q:Int))=true;exact aN (by omega)) ⟨one_le,aZ k rfl ⟨dx,fa,sa,as,iA,X3⟩⟩
   |none=>
    rw[hf,ah (show ¬(none:Option Nat).isSome=true from az)]at k;refine cx (by decide) ?_;obtain⟨o1,o2⟩:=X3.code Ud (IK hf);have X4:=X3.slot (v:=.ref p) (o:=some t.compiled) z.toNat ⟨p,rs,rfl,Ud,o1,o2⟩;refine⟨_,rfl,_,rfl,c,C,dx,_,_,rfl,X3.ob,T.cl,T.TN,pZ _ _ _,_,rfl,sa,_,z,z.toNat,rfl,rfl,X3.sl,AS hz (by rw[Paired.length X3.pg];exact G.pl),?_⟩;have Zx:(upd H3 sa (.lst (iA.set z.toNat (V.ref p)))) p=some (.lst (rs.map V.ref)):=(ao o1.2.2.2).trans Ud.lst;refine⟨_,rfl,p,_,rfl,.inl (bp.of Zx),one_le,?_⟩;rw[aH,Ud.len];exact aZ k rfl ⟨dx,fa,sa,as,_,X4⟩
  ·
   rintro p a K8 σ1 H1 hσ ⟨n,en,er,s1⟩ ha pS fR
   have ep:p=(n:Int):=by
    have:=en;injection this
   subst ep;rw[er]at k;have s2:=aA (o:=.xd (Pt (n:Int))) pS;have ha2:(upd H1 K8 (.xd (Pt (n:Int)))) a=none:=(ao (Ne.symm fR)).trans ha;have s3:=aA (o:=IP CE a K8) ha2;refine⟨_,gr (by rw[hσ];show 4<5;decide),a,K8,(n:Int),rfl,af,(ao fR).trans af,_,_,rfl,rfl,one_le,?_⟩;exact aZ k rfl (((X.same s1).same s2).same s3)
end
theorem nj{X:Cx}{e:Expr}{f:Str}(K:Frag)(hK:X.K=K)(he:PE X e ta)(hb:attributeBase e f X.env (eval e X.env)=eval e X.env:=by rfl):PE X (.Attribute e f pos) (zh K ta f):=by
 subst hK;exact aD he hb
theorem VR{X:Cx}{e:Expr}{p:Pos}(K:Frag)(hK:X.K=K)(hm:X.mg "len"=none)(he:PE X e te)(hg:Gl X "len":=by rfl)(hs:starEach [e] X.env=(false,eval e X.env)::starEach [] X.env:=by rfl):
  PE X (.Call (.Name "len" p) [e] [] pos) (tCB (λxs H Q=>∃p ys,xs=[.ref p]/\(bp K H p ys\/rB K H p ys)/\Q (.int ys.length) H) (d5 te gj)):=by
 subst hK;exact dX hm he hg hs
theorem qG{ok:Addr->Prop}{te:TE}{H1:Hp}{Qd:Hp->Prop}(val:Sf84.Kept->Int)(hl:H1 l=some (.lst (as.map V.ref)))(hD:H1 D=none)(hf:Frs CF ok H1 as ks)(hn:ks.length<sizeLine)
  (hw:∀a,wipe ((wipe σ [j]).set j (some (.ref a))) [j]=wipe σ [j])
  (hte:∀a ka k H3 (Q':VK),a9 H1 H3->kS CF H3 a ka k->Q' (.int (val k)) H3->te ((wipe σ [j]).set j (some (.ref a))) H3 Q')
  (hd:∀H,a9 H1 H->H D=some (.lst ((ks.map val).map V.int))->Qd H):
  ∃W:Nat->Nat->Hp->Prop,(∃m,W 0 m (upd H1 D (.lst [])))/\∀i m H,W i m H->
   ((Sk K l).stop i H/\Qd H)\/((Sk K l).go i H/\∃Nx:Hp->Prop,(∀H',Nx H'->∃m',m'<m/\W (i+1) m' H')/\∀x H',(Sk K l).Pk i H x H'->AZ j x (wipe σ [j]) H' λσ2 H2=>wipe σ2 [j]=wipe σ [j]/\Vo σ2 H2 λb H3=>
    if b=true then te σ2 H3 λy H4=>∃acc,H4 D=some (.lst acc)/\acc.length<sizeLine/\Nx (upd H4 D (.lst (acc++[y])))else Nx H3):=by
 refine nV (K:=K) (a:=l) (xs:=as.map V.ref) (λi H'=>H' D=some (.lst (((ks.take i).map val).map V.int))/\a9 H1 H') ⟨af,aA hD⟩ (λi H' _ ⟨_,s2⟩=>bp.of (s2 _ _ hl)) ?_ ?_
 ·rintro i x H2 hi ⟨oJ,s2⟩
  obtain⟨a,ha,rfl⟩:=iV hi;obtain⟨k,hk,ka,fm,_⟩:=ox hf ha;refine⟨hw a,rJ (hte a ka k H2 _ s2 (fm.same s2) ⟨_,oJ,?_,?_,bY s2 hD⟩)⟩
  ·rw[aH,aH,bE];exact gX (Nat.min_le_right _ _) hn
  ·rw[af,eU hk,bH,bH];rfl
 ·rintro H2 ⟨oJ,s2⟩
  rw[aH,Paired.length hf,List.take_length]at oJ;exact hd H2 s2 oJ
theorem xu:ax ["self","slot","program","frame"] ["self","slot"] (ak h_):=⟨rfl,rfl,rfl,by decide +kernel,rfl,by decide +kernel,by decide +kernel⟩
theorem HA:ax ["self","slot","start","most","refusal","numbers","frame"] ["self","slot","start","most"] (ak eS):=⟨rfl,rfl,rfl,by decide +kernel,rfl,by decide +kernel,by decide +kernel⟩
theorem DC:ax ["self","slot","refusal","frames","length","kept","way","latest","frame"] ["self","slot"] (ak e_):=⟨rfl,rfl,rfl,by decide +kernel,rfl,by decide +kernel,by decide +kernel⟩
section
variable {C CF:Addr}
inductive lT(C CF:Addr)(vs:List V)(H:Hp)(Q:VK)(_E:XK):Prop
 |mk (B:Hp) (c:Addr) (s:Sf84.S) (z:Int) (code:Sf84.Code):vs=[.ref c,.int z]->cy C CF B H c s->Good s->dr z=true->s.program z.toNat=some code->(∀(H':Hp) (l:Addr) (as:List Addr),a9 H H'->H' l=some (.lst (as.map V.ref))->Frs CF (λx=>x≠l) H' as (s.ring.filter λ(x:Sf84.Kept)=>code.says x.bytes)->Q (.ref l) H')->lT C CF vs H Q _E
theorem Kk(F:bU K "fitting" "Capture.fitting" h_ f fd)(T:aX K mg C)(R:fo K mg CF)(mY:mg "says_yes"=some (.ref fY))(cY:Calls aV P w K mg fY 4 rK):aP P w K mg base aV 5 f fd ["self","slot"] (lT C CF):=by
 refine F.ok xu (λvs H Q E h=>?_) (λbG A outer s H vs Q E hr h=>?_)
 ·obtain⟨B,c,s,z,code,rfl,_⟩:=h;rfl
 ·obtain⟨B,c,s,z,code,rfl,X,G,hz,hp,k⟩:=h;have nd:=xu.nd;obtain⟨dx,fa,sa,as,iA,XX⟩:=id X;refine⟨_,ae (aB (i:=2) nd rfl (Or.inr rfl) (bu bq (aD (pv 0) rfl) (pv 1) (λ_ _=>rfl)))
   (ag (aq (uw (own:=[("frame",3)]) rfl nd (dG (aD (pv 0) rfl)) (eO rfl) (λs H C cl fp=>bR (i:=3) nd rfl (Or.inl rfl))
    (λs H C cl fp=>L5 (dc (aR cY mY hr aE (aa (pv 2) (aa (nj K rfl (pv 3)) aj))))) (λs H C cl fp=>pv 3)))),?_⟩
  obtain⟨p,rs,Zu,hc,o1,o2⟩:=E_ XX G hz hp;refine⟨_,rfl,c,C,dx,_,_,rfl,XX.ob,T.cl,T.TN,pZ _ _ _,_,rfl,sa,_,z,_,rfl,rfl,bp.of XX.sl,Zu,?_⟩;refine⟨_,rfl,c,C,dx,_,_,rfl,XX.ob,T.cl,T.nF,p7 _ _ _,fa,rfl,⟨_,bp.of XX.fl⟩,λD hD=>?_⟩;refine nV (K:=K) (a:=fa) (xs:=as.map V.ref) (λi H'=>∃bs:List Addr,H' D=some (.lst (bs.map V.ref))/\Frs CF (λx=>x≠D) H' bs ((s.ring.take i).filter λ(x:Sf84.Kept)=>code.says x.bytes)/\a9 H H')
   ⟨[],af,.nil,aA hD⟩ (λi H' _ ⟨_,_,_,s2⟩=>bp.of (s2 _ _ XX.fl)) ?_ ?_
  ·rintro i x H2 hi ⟨bs,oJ,Uc,s2⟩
   obtain⟨a,ha,rfl⟩:=iV hi;obtain⟨kk,hk,ka,fm,_⟩:=ox XX.fr ha;obtain⟨⟨dy,ob⟩,C4⟩:=fm.same s2;have AV:s.ring[i]? =some kk:=hk;have hb:=(G.ring kk (d7 AV)).2;have naD:a≠D:=λq=>by rw[q,oJ]at ob;cases ob
   have nkD:ka≠D:=au fm.C4 hD;refine⟨rfl,?_⟩;refine⟨_,rfl,_,rfl,a,CF,dy,_,_,rfl,ob,R.cl,R.nK,rp _ _ _ _ _,p,ka,code,rs,kk.bytes,rfl,hc.same s2,G.pf _ _ hp,C4,Sh (by omega),λH3 s3=>⟨_,rfl,?_⟩⟩;rw[eU AV,List.filter_append];cases hs:Sf84.Code.says code kk.bytes with
   |true=>
    refine cu rfl ⟨_,rfl,_,s3 _ _ oJ,?_,bs++[a],by rw[af,bH];rfl,?_,bY (s2.trans s3) hD⟩
    ·have e1:bs.length<=s.ring.length:=by
      rw[Paired.length Uc];refine a8 (List.length_filter_le _ _) ?_;rw[bE];omega
     have:=G.len;rw[aH];exact dE (by omega)
    ·rw[show [kk].filter (λ(x:Sf84.Kept)=>code.says x.bytes)=[kk] by rw[List.filter_cons,ai hs];rfl];refine Paired.snoc ((Uc.same s3).move λb u o e=>(ao o).trans e) ⟨ka,⟨⟨dy,(ao naD).trans (s3 _ _ ob)⟩,(ao nkD).trans (s3 _ _ C4)⟩,naD,nkD⟩
   |false=>
    refine cx az ⟨bs,s3 _ _ oJ,?_,s2.trans s3⟩;rw[show [kk].filter (λ(x:Sf84.Kept)=>code.says x.bytes)=[] by rw[List.filter_cons,ah (by rw[hs];exact az)];rfl,gW];exact Uc.same s3
  ·rintro H2 ⟨bs,oJ,Uc,s2⟩
   rw[aH,show as.length=s.ring.length from Paired.length XX.fr,List.take_length]at Uc;exact k H2 D bs s2 oJ Uc
end
@[irreducible] def Az(z:Int):Bool:=decide (0<=z)&&decide (z<=65536)
theorem DV(z:Int):Az z=true↔0<=z/\z<=65536:=by
 unfold Az;rw[bj,aI,aI]
theorem G3(z:Int):Sf84.within z 0 65536=Az z:=by
 apply bN;rw[DV];unfold Sf84.within;rw[bj,aI,aI];omega
theorem RZ(xs:List V)(h:0<=z):d4 xs none (some z)=xs.take z.toNat:=by
 rw[show z=((z.toNat:Nat):Int) by omega,Int.toNat_natCast];unfold d4;rw[HT.pB,HT.ia,List.drop_zero,Nat.sub_zero];by_cases h:z.toNat<=xs.length
 ·rw[Nat.min_eq_left h]
 ·rw[Nat.min_eq_right (by omega),List.take_length,eD (by omega)]
section
variable {C CF:Addr}
def pT(s:Sf84.S)(code:Sf84.Code)(f:Int):List Sf84.Kept:=s.ring.filter λ(x:Sf84.Kept)=>decide (f<=(x.id:Int))&&code.says x.bytes
theorem OB(s:Sf84.S)(z f m:Int):Sf84.does s (.find z f m)=(s,if dr z=false\/Az m=false then Sf84.says (-1)else match s.program z.toNat with
  |some c=>(⟨(pT s c f).length,((pT s c f).take m.toNat).map λ(x:Sf84.Kept)=>x.id⟩:Sf84.Ans)
  |none=>Sf84.says (-2)):=by
 show(s,if Sf84.within z 0 15=false\/Sf84.within m 0 65536=false then _ else _)=_;rw[eX,G3];rfl
inductive EW(C CF:Addr)(vs:List V)(H:Hp)(Q:VK)(_E:XK):Prop
 |mk (B:Hp) (c:Addr) (s:Sf84.S) (z f m:Int):vs=[.ref c,.int z,.int f,.int m]->cy C CF B H c s->Good s->Ans C CF B c (Sf84.does s (.find z f m)) Q->EW C CF vs H Q _E
theorem Aj(F:bU K "find_frames" "Capture.find_frames" eS f fd)(T:aX K mg C)(R:fo K mg CF)(N:ml mg)(M:bh aV P w K mg C "refusal_of" 2 (ft C CF))(MF:bh aV P w K mg C "fitting" 5 (lT C CF)):aP P w K mg base aV 6 f fd ["self","slot","start","most"] (EW C CF):=by
 refine F.ok HA (λvs H Q E h=>?_) (λbG A outer s H vs Q E hr h=>?_)
 ·obtain⟨B,c,s,z,g,m,rfl,_⟩:=h;rfl
 ·obtain⟨B,c,s,z,g,m,rfl,X,G,k⟩:=h;have nd:=HA.nd;obtain⟨dx,fa,sa,as,iA,XX⟩:=id X;refine⟨_,ae (aB (i:=4) nd rfl (Or.inl rfl) (dA (ij f_ f_ ay (pv 3) (cI N.mf)) (dj M T.cl (pv 0) (hr.mono (by decide)) aE (aa (pv 1) aj)) (cI N.na)))
   (ae (a7 (aF j0 (pv 4) (cI N.nr) (aK _)) (ag (aq (aY (aa (pv 4) aj)))) aJ)
   (ae (zT (i:=5) (own:=[("frame",6)]) rfl nd rfl rfl (EC rfl rfl rfl rfl) (dG (dj MF T.cl (pv 0) hr aE (aa (pv 1) aj))) (eO rfl) (λs H C cl fp=>bR (i:=6) nd rfl (Or.inl rfl))
    (λs H C cl fp=>L5 (aF uy (nj K rfl (pv 6)) (pv 2) (aK _))) (λs H C cl fp=>nj K rfl (pv 6)))
   (ag (aq (bb gi (aY (aa (dX N.len (pv 5)) aj)) (de fw (pv 5) ur (bQ (pv 3)))))))),?_⟩
  rw[OB]at k;refine⟨_,rfl,chT ?_⟩;have em:(decide ((0:Int)<=m)&&decide (m<=65536))=Az m:=by unfold Az;rfl
  rw[em];cases hm:Az m with
  |false=>
   refine cx az ?_;exact⟨_,rfl,rfl,_,rfl,cu rfl ⟨_,rfl,one_le,aZ k (by rw[ai (.inr hm)]) X⟩⟩
  |true=>
  refine cu rfl ?_;refine⟨_,rfl,c,dx,_,rfl,XX.ob,cn _ _ _ (by decide +kernel),_,rfl,B,c,s,z,rfl,X,G,?_⟩;rcases jH s z with⟨hz,er⟩|⟨hz,hp,er⟩|⟨code,hz,hp,er⟩
  ·rw[er];exact⟨_,rfl,rfl,_,rfl,cu rfl ⟨_,rfl,one_le,aZ k (by rw[ai (.inl hz)]) X⟩⟩
  ·rw[er];exact⟨_,rfl,rfl,_,rfl,cu rfl ⟨_,rfl,one_le,aZ k (by rw[ah (fQ hz hm),hp]) X⟩⟩
  ·rw[er];refine⟨_,rfl,rfl,_,rfl,cx (by decide) ?_⟩;rw[ah (fQ hz hm),hp]at k;dsimp only at k;refine⟨_,rfl,c,dx,_,rfl,XX.ob,cn _ _ _ (by decide +kernel),_,rfl,B,c,s,z,code,rfl,X,G,hz,hp,λH1 l bs s1 hl hf=>?_⟩;have hlen:bs.length<=700000:=by
    rw[Paired.length hf];exact a8 (List.length_filter_le _ _) G.len
   refine⟨l,rfl,⟨_,bp.of hl⟩,λD hD=>?_⟩;refine nV (K:=K) (a:=l) (xs:=bs.map V.ref) (λi H'=>H' D=some (.lst (((((s.ring.filter λ(x:Sf84.Kept)=>code.says x.bytes).take i).filter λ(x:Sf84.Kept)=>decide (g<=(x.id:Int))).map λ(x:Sf84.Kept)=>x.id).map vN))/\a9 H1 H')
    ⟨af,aA hD⟩ (λi H' _ ⟨_,s2⟩=>bp.of (s2 _ _ hl)) ?_ ?_
   ·rintro i x H2 hi ⟨oJ,s2⟩
    obtain⟨a,ha,rfl⟩:=iV hi;obtain⟨kk,hk,ka,fm,_⟩:=ox hf ha;obtain⟨⟨dy,ob⟩,C4⟩:=fm.same s2;refine⟨rfl,?_⟩;refine⟨_,rfl,a,CF,dy,_,_,rfl,ob,R.cl,R.nN,xK _ _ _ _ _,_,rfl,_,_,rfl,rfl,_,rfl,?_⟩;rw[eU hk,List.filter_append,bH,bH];cases hs:decide (g<=(kk.id:Int))with
    |true=>
     refine cu rfl ⟨_,rfl,a,CF,dy,_,_,rfl,ob,R.cl,R.nN,xK _ _ _ _ _,_,oJ,?_,?_,bY s2 hD⟩
     ·rw[aH,aH];refine dE (gX (List.length_filter_le _ _) ?_);rw[bE,<-Paired.length hf];omega
     ·rw[af,show [kk].filter (λ(x:Sf84.Kept)=>decide (g<=(x.id:Int)))=[kk] by rw[List.filter_cons,ai hs];rfl];rfl
    |false=>
     refine cx az ⟨?_,s2⟩;rw[show [kk].filter (λ(x:Sf84.Kept)=>decide (g<=(x.id:Int)))=[] by rw[List.filter_cons,ah (by rw[hs];exact az)];rfl,List.map_nil,List.map_nil,gW];exact oJ
   ·rintro H2 ⟨oJ,s2⟩
    rw[aH,Paired.length hf,List.take_length,List.filter_filter]at oJ;have Zj:H2 D=some (.lst (((pT s code g).map λ(x:Sf84.Kept)=>x.id).map vN)):=oJ;have hfl:(pT s code g).length<=700000:=a8 (List.length_filter_le _ _) G.len;refine⟨_,rfl,D,_,rfl,.inl (bp.of Zj),one_le,λl3 h3=>?_⟩;have s3:=aA (o:=.lst [V.int ((((pT s code g).map λ(x:Sf84.Kept)=>x.id).map vN).length:Int)]) h3;refine⟨_,rfl,_,rfl,_,rfl,D,_,rfl,bp.of (s3 _ _ Zj),λl4 h4=>?_⟩;rw[RZ _ ((DV m).mp hm).1]at*;have s4:=aA (o:=.lst ((((pT s code g).map λ(x:Sf84.Kept)=>x.id).map vN).take m.toNat)) h4;refine⟨l3,l4,_,_,rfl,rfl,s4 _ _ af,af,?_,λl5 h5=>?_⟩
    ·rw[bE,aH,aH];exact dH (by show 1+_<=_;omega)
    ·refine k _ l5 (((((X.same s1).same s2).same s3).same s4).same (aA h5)) (((((X.same s1).same s2).same s3).same s4).sm.free h5) ?_;rw[af,aH,aH];show _=some (HO.lst (V.int (((pT s code g).length:Nat):Int)::(((((pT s code g).take m.toNat).map λ(x:Sf84.Kept)=>x.id).map λ(n:Nat)=>(n:Int)).map V.int)));rw[jK,List.map_take,List.map_take];rfl
end
theorem tN{α:Type}(g:α->Nat):∀l:List α,(l.map λx=>((g x:Nat):Int)).sum=(((l.map g).sum:Nat):Int)
 |[]=>rfl
 |x::l=>by
  rw[cz,cz,List.sum_cons,List.sum_cons,tN g l,tD]
theorem G5:∀l:List Sf84.Kept,(∀k∈l,k.way<=1)->(l.map λ(x:Sf84.Kept)=>x.way).sum=(l.filter λ(x:Sf84.Kept)=>x.way==1).length
 |[],_=>rfl
 |x::l,h=>by
  have h1:=h x bB;rw[cz,List.sum_cons,G5 l λk hk=>h k (aS _ hk),List.filter_cons];by_cases q:x.way=1
  ·rw[ai (by rw[q];rfl),di,q];omega
  ·rw[ah (by rw[beq_iff_eq];exact q),show x.way=0 by omega];omega
theorem NP(l:List Sf84.Kept):∀n:Nat,(l.map λ(x:Sf84.Kept)=>((x.time:Nat):Int)).foldl max (n:Int)=((l.foldl (λ(m:Nat) (x:Sf84.Kept)=>max m x.time) n:Nat):Int):=by
 induction l with
 |nil=>intro n;rfl
 |cons x l ih=>
  intro n;rw[cz,List.foldl_cons,List.foldl_cons,show max (n:Int) ((x.time:Nat):Int)=((max n x.time:Nat):Int) by omega];exact ih (max n x.time)
section
variable {C CF:Addr}
def sM(s:Sf84.S)(code:Sf84.Code):List Sf84.Kept:=s.ring.filter λ(x:Sf84.Kept)=>code.says x.bytes
theorem K_(s:Sf84.S)(z:Int):Sf84.does s (.total z)=(s,if dr z=false then Sf84.says (-1)else match s.program z.toNat with
  |some c=>(⟨(sM s c).length,[((sM s c).map λ(x:Sf84.Kept)=>x.long).sum,((sM s c).map λ(x:Sf84.Kept)=>x.bytes.length).sum,((sM s c).filter λ(x:Sf84.Kept)=>x.way==1).length,(sM s c).foldl (λ(m:Nat) (x:Sf84.Kept)=>max m x.time) 0]⟩:Sf84.Ans)
  |none=>Sf84.says (-2)):=by
 show(s,if Sf84.within z 0 15=false then _ else _)=_;rw[eX];rfl
inductive yA(C CF:Addr)(vs:List V)(H:Hp)(Q:VK)(_E:XK):Prop
 |mk (B:Hp) (c:Addr) (s:Sf84.S) (z:Int):vs=[.ref c,.int z]->cy C CF B H c s->Good s->Ans C CF B c (Sf84.does s (.total z)) Q->yA C CF vs H Q _E
theorem B1(F:bU K "tell_total" "Capture.tell_total" e_ f fd)(T:aX K mg C)(R:fo K mg CF)(N:ml mg)(M:bh aV P w K mg C "refusal_of" 2 (ft C CF))(MF:bh aV P w K mg C "fitting" 5 (lT C CF)):aP P w K mg base aV 6 f fd ["self","slot"] (yA C CF):=by
 refine F.ok DC (λvs H Q E h=>?_) (λbG A outer s H vs Q E hr h=>?_)
 ·obtain⟨B,c,s,z,rfl,_⟩:=h;rfl
 ·obtain⟨B,c,s,z,rfl,X,G,k⟩:=h;have nd:=DC.nd;obtain⟨dx,fa,sa,as,iA,XX⟩:=id X;refine⟨_,ae (aB (i:=2) nd rfl (Or.inl rfl) (dj M T.cl (pv 0) (hr.mono (by decide)) aE (aa (pv 1) aj)))
   (ae (a7 (aF j0 (pv 2) (cI N.nr) (aK _)) (ag (aq (aY (aa (pv 2) aj)))) aJ)
   (ae (aB (i:=3) nd rfl (Or.inl rfl) (dj MF T.cl (pv 0) hr aE (aa (pv 1) aj)))
   (ae (aB (i:=4) nd rfl (Or.inl rfl) (cb (Ln rfl) (by rfl) N.sum PyProof.Rows.boot_sum (aa (uw (own:=[("frame",8)]) rfl nd (dG (pv 3)) (eO rfl) (λs H C cl fp=>bR (i:=8) nd rfl (Or.inl rfl)) (λs H C cl fp=>iT) (λs H C cl fp=>nj K rfl (pv 8))) aj)))
   (ae (aB (i:=5) nd rfl (Or.inl rfl) (cb (Ln rfl) (by rfl) N.sum PyProof.Rows.boot_sum (aa (uw (own:=[("frame",8)]) rfl nd (dG (pv 3)) (eO rfl) (λs H C cl fp=>bR (i:=8) nd rfl (Or.inl rfl)) (λs H C cl fp=>iT) (λs H C cl fp=>VR K rfl N.len (nj K rfl (pv 8)))) aj)))
   (ae (aB (i:=6) nd rfl (Or.inl rfl) (cb (Ln rfl) (by rfl) N.sum PyProof.Rows.boot_sum (aa (uw (own:=[("frame",8)]) rfl nd (dG (pv 3)) (eO rfl) (λs H C cl fp=>bR (i:=8) nd rfl (Or.inl rfl)) (λs H C cl fp=>iT) (λs H C cl fp=>nj K rfl (pv 8))) aj)))
   (ae (aB (i:=7) nd rfl (Or.inl rfl) (Tp rfl rfl N.max (aa (uw (own:=[("frame",8)]) rfl nd (dG (pv 3)) (eO rfl) (λs H C cl fp=>bR (i:=8) nd rfl (Or.inl rfl)) (λs H C cl fp=>iT) (λs H C cl fp=>nj K rfl (pv 8))) aj)))
   (ag (aq (aY (aa (dX N.len (pv 3)) (aa (pv 4) (aa (pv 5) (aa (pv 6) (aa (pv 7) aj)))))))))))))),?_⟩
  rw[K_]at k;refine⟨_,rfl,c,dx,_,rfl,XX.ob,cn _ _ _ (by decide +kernel),_,rfl,B,c,s,z,rfl,X,G,?_⟩;rcases jH s z with⟨hz,er⟩|⟨hz,hp,er⟩|⟨code,hz,hp,er⟩
  ·rw[er];exact⟨_,rfl,rfl,_,rfl,cu rfl ⟨_,rfl,one_le,aZ k (by rw[ai hz]) X⟩⟩
  ·rw[er];exact⟨_,rfl,rfl,_,rfl,cu rfl ⟨_,rfl,one_le,aZ k (by rw[ah (by rw[hz];exact Bool.noConfusion),hp]) X⟩⟩
  ·rw[er];refine⟨_,rfl,rfl,_,rfl,cx (by decide) ?_⟩;rw[ah (by rw[hz];exact Bool.noConfusion),hp]at k;dsimp only at k;refine⟨_,rfl,c,dx,_,rfl,XX.ob,cn _ _ _ (by decide +kernel),_,rfl,B,c,s,z,code,rfl,X,G,hz,hp,λH1 l bs s1 hl hf=>?_⟩;have hn:(sM s code).length<sizeLine:=dE (gX (a8 (List.length_filter_le _ _) G.len) (by decide));refine⟨_,rfl,l,rfl,⟨_,bp.of hl⟩,λD1 hD1=>qG (ks:=sM s code) (λk=>((k.long:Nat):Int)) hl hD1 hf hn (λa=>rfl) (λa ka k H3 Q' s3 fm q=>by
    obtain⟨⟨dy,ob⟩,_⟩:=fm;exact⟨_,rfl,a,CF,dy,_,_,rfl,ob,R.cl,R.nL,Mx _ _ _ _ _,q⟩) λH2 s2 h2=>?_⟩
   refine⟨D1,_,rfl,bp.of h2,?_⟩;have oJ:=s2 _ _ hl;have Uc:=hf.same s2;refine⟨_,rfl,l,rfl,⟨_,bp.of oJ⟩,λD2 hD2=>qG (ks:=sM s code) (λk=>((k.bytes.length:Nat):Int)) oJ hD2 Uc hn (λa=>rfl) (λa ka k H3 Q' s3 fm q=>by
    obtain⟨⟨dy,ob⟩,C4⟩:=fm;exact⟨_,rfl,a,CF,dy,_,_,rfl,ob,R.cl,R.nK,rp _ _ _ _ _,ka,_,rfl,.inl (bp.of C4),by rw[dq];exact q⟩) λH3 s3 h3=>?_⟩
   refine⟨D2,_,rfl,bp.of h3,?_⟩;have Xr:=s3 _ _ oJ;have hf3:=Uc.same s3;refine⟨_,rfl,l,rfl,⟨_,bp.of Xr⟩,λD3 hD3=>qG (ks:=sM s code) (λk=>((k.way:Nat):Int)) Xr hD3 hf3 hn (λa=>rfl) (λa ka k H3 Q' s3 fm q=>by
    obtain⟨⟨dy,ob⟩,_⟩:=fm;exact⟨_,rfl,a,CF,dy,_,_,rfl,ob,R.cl,R.nW,Mv _ _ _ _ _,q⟩) λH4 s4 h4=>?_⟩
   refine⟨D3,_,rfl,bp.of h4,?_⟩;have Xq:=s4 _ _ Xr;have hf4:=hf3.same s4;refine⟨_,rfl,l,rfl,⟨_,bp.of Xq⟩,λD4 Zx=>qG (ks:=sM s code) (λk=>((k.time:Nat):Int)) Xq Zx hf4 hn (λa=>rfl) (λa ka k H3 Q' s3 fm q=>by
    obtain⟨⟨dy,ob⟩,_⟩:=fm;exact⟨_,rfl,a,CF,dy,_,_,rfl,ob,R.cl,R.nT,Mw _ _ _ _ _,q⟩) λH5 s5 h5=>?_⟩
   refine⟨D4,_,rfl,bp.of h5,λx hx=>by obtain⟨k,_,rfl⟩:=List.mem_map.mp hx;exact Int.natCast_nonneg _,?_⟩;have Ub:=s5 _ _ Xq;refine⟨_,rfl,l,_,rfl,.inl (bp.of Ub),_,rfl,_,rfl,_,rfl,_,rfl,(by show 5<=sizeLine;decide),λl6 h6=>?_⟩;refine k _ l6 ((((((X.same s1).same s2).same s3).same s4).same s5).same (aA h6)) ((((((X.same s1).same s2).same s3).same s4).same s5).sm.free h6) ?_;have ew:((sM s code).map Sf84.Kept.way).sum=((sM s code).filter λ(x:Sf84.Kept)=>x.way==1).length:=G5 (sM s code) (λk hk=>(G.ring k (List.mem_filter.mp hk).1).1);rw[af,aH,Paired.length hf,tN,tN,tN,ew];have em:Kr ((sM s code).map λk=>((k.time:Nat):Int))=(((sM s code).foldl (λ(m:Nat) (x:Sf84.Kept)=>max m x.time) 0:Nat):Int):=NP _ 0;rw[em];rfl
end
section
variable {C CF:Addr} {B H:Hp} {c dx fa sa kf:Addr} {as as':List Addr} {pv:List V} {q q':Raw}
theorem eB.yL(X:eB C CF B H c q dx fa sa as pv){x:Addr}(h:H x=none):Off B c fa sa x:=
 ⟨X.sm.free h,Ne.symm (au X.ob h),Ne.symm (au X.fl h),Ne.symm (au X.sl h)⟩
theorem eB.app(X:eB C CF B H c q dx fa sa as pv){a:Addr}{k:Sf84.Kept}(fm:kS CF H a ka k)(o1:Off B c fa sa a)(o2:Off B c fa sa ka):eB C CF B (upd H fa (.lst (as.map V.ref++[V.ref a]))) c {q with ring:=q.ring++[k]} dx fa sa (as++[a]) pv:=by
 have nc:=X.nc;have mv:∀b u,Off B c fa sa b->H b=some u->upd H fa (.lst (as.map V.ref++[V.ref a])) b=some u:=λb u o e=>(ao o.2.2.1).trans e
 refine⟨(ao nc.1).trans X.ob,by rw[af,bH];rfl,Paired.snoc (X.fr.move mv) ⟨ka,?_,o1,o2⟩,(ao (Ne.symm X.Sy)).trans X.sl,iN (λ_ _ h=>h.move mv) X.pg,X.Sy,X.bc,X.bf,X.bs,λb u e=>?_,X.bi⟩
 ·obtain⟨⟨dy,ob⟩,C4⟩:=fm;exact⟨⟨dy,mv _ _ o1 ob⟩,mv _ _ o2 C4⟩
 ·rw[ao (au e X.bf)];exact X.sm b u e
theorem eB.Yo(X:eB C CF B H c q dx fa sa as pv)(hf:H kf=some (.lst (as'.map V.ref)))(bf:B kf=none)(ns:kf≠sa)(fr:Frs CF (Off B c kf sa) H as' q'.ring)(pg:Paired (sY (Off B c kf sa) H) pv q'.zV):eB C CF B (upd H c (.ins C dx (dQ q' kf sa))) c q' dx kf sa as' pv:=by
 have n1:kf≠c:=λe=>by rw[e,X.ob]at hf;cases hf
 refine⟨af,(ao n1).trans hf,fr.move λb u o e=>(ao o.2.1).trans e,(ao (Ne.symm X.nc.2)).trans X.sl,iN (λ_ _ h=>h.move λb u o e=>(ao o.2.1).trans e) pg,ns,X.bc,bf,X.bs,λb u e=>?_,X.bi⟩;rw[ao (au e X.bc)];exact X.sm b u e
end
theorem yW:∀(l m:List Sf84.Kept),weight (l++m)=weight l+weight m:=by
 intro l m;unfold weight;rw[bH,List.sum_append]
theorem G4(k:Sf84.Kept)(l:List Sf84.Kept):weight (k::l)=k.bytes.length+24+weight l:=rfl
theorem jz(room:Nat)(k:Sf84.Kept)(l:List Sf84.Kept):trimmed room (k::l)=if weight (k::l)<=room then k::l else trimmed room l:=rfl
theorem G_{room:Nat}:∀{l:List Sf84.Kept},weight l<=room->trimmed room l=l
 |[],_=>rfl
 |k::l,h=>by rw[jz,ai h]
theorem rG(room:Nat):∀l:List Sf84.Kept,weight (trimmed room l)<=room
 |[]=>bw _
 |k::l=>by
  rw[jz];by_cases h:weight (k::l)<=room
  ·rw[ai h];exact h
  ·rw[ah h];exact rG room l
theorem oW(room:Nat):∀l:List Sf84.Kept,∀k∈trimmed room l,k∈l
 |[],k,h=>h
 |x::l,k,h=>by
  rw[jz]at h;by_cases hw:weight (x::l)<=room
  ·rw[ai hw]at h;exact h
  ·rw[ah hw]at h;exact aS _ (oW room l k h)
section
variable {C CF:Addr}
def Ri(q:Raw)(k:Sf84.Kept):Raw:={q with ring:=q.ring++[ku k q.snap],wt:=q.wt+((ku k q.snap).bytes.length+24),next:=max q.next (k.id+1)}
inductive zo(C CF:Addr)(vs:List V)(H:Hp)(Q:VK)(_E:XK):Prop
 |mk (B:Hp) (c dx fa sa a ka:Addr) (q:Raw) (as:List Addr) (pv:List V) (k:Sf84.Kept):vs=[.ref c,.ref a]->eB C CF B H c q dx fa sa as pv->kS CF H a ka k->as.length<16000000->(∀(H':Hp) (a':Addr),eB C CF B H' c (Ri q k) dx fa sa (as++[a']) pv->(∀b u,H b=some u->b≠c->b≠fa->H' b=some u)->Q .dt H')->zo C CF vs H Q _E
theorem TB(F:bU K "keep" "Capture.keep" jY f fd)(T:aX K mg C)(R:fo K mg CF)(N:ml mg)(MS:bh aV P w K mg CF "shortened" 3 (yC CF))(MW:bh aV P w K mg CF "weight" 1 (oY CF)):aP P w K mg base aV 4 f fd ["self","frame"] (zo C CF):=by
 refine F.ok ot (λvs H Q E h=>?_) (λbG A outer s H vs Q E hr h=>?_)
 ·obtain⟨B,c,dx,fa,sa,a,ka,q,as,pv,k,rfl,_⟩:=h;rfl
 ·obtain⟨B,c,dx,fa,sa,a,ka,q,as,iA,k,rfl,X,fm,hlen,kk⟩:=h;have nd:=ot.nd;obtain⟨⟨dy,ob⟩,C4⟩:=id fm;refine⟨_,ae (aB (i:=2) nd rfl (Or.inl rfl) (dj MS R.cl (pv 1) hr aE (aa (aD (pv 0) rfl) aj)))
   (ae (aU (DM (aD (pv 0) rfl) (pv 2)))
   (ae (gT (pv 0) (bT MW R.cl (pv 2) (hr.mono (by decide)) aE) wC)
   (ag (cv (pv 0) (cb (OX rfl) (by rfl) N.max PyProof.Rows.boot_max (aa (aD (pv 0) rfl) (aa (bb ck (aD (pv 2) rfl) ay) aj))) rfl)))),?_⟩
  refine⟨_,rfl,a,dy,_,rfl,ob,Ey (by decide +kernel),_,rfl,c,C,dx,_,_,rfl,X.ob,T.cl,T.nS,R3 _ _ _,a,ka,k,q.snap,rfl,fm,λH1 a' Mm s1 SH Ob fm'=>?_⟩;have X1:=X.same s1;have X2:=X1.app fm' (X.yL SH) (X.yL Ob);refine⟨_,rfl,c,C,dx,_,_,rfl,X1.ob,T.cl,T.nF,p7 _ _ _,.inl ⟨rfl,_,bp.of X1.fl⟩,_,rfl,fa,_,_,rfl,rfl,X1.fl,by rw[aH];exact dE (by omega),?_⟩;have kp2:∀b u,H b=some u->b≠c->b≠fa->(upd H1 fa (.lst (as.map V.ref++[V.ref a']))) b=some u:=λb u e _ n=>(ao n).trans (s1 _ _ e)
  have NK:a'≠fa/\Mm≠fa:=⟨(X.yL SH).2.2.1,(X.yL Ob).2.2.1⟩;have fm2:kS CF (upd H1 fa (.lst (as.map V.ref++[V.ref a']))) a' Mm (ku k q.snap):=by
   obtain⟨⟨dz,o⟩,b⟩:=fm';exact⟨⟨dz,(ao NK.1).trans o⟩,(ao NK.2).trans b⟩
  generalize upd H1 fa (.lst (as.map V.ref++[V.ref a']))=H2 at X2 kp2 fm2 ⊢;obtain⟨⟨dz,Xj⟩,by2⟩:=id fm2;refine⟨_,rfl,c,C,dx,_,_,rfl,X2.ob,T.cl,T.nW,Gu _ _ _,_,rfl,a',dz,_,rfl,Xj,Ey (by decide +kernel),a',Mm,_,rfl,fm2,_,_,rfl,rfl,dx,_,X2.ob,iw _ _ _,?_⟩;rw[show V.int (((q.wt:Nat):Int)+(((ku k q.snap).bytes.length+24:Nat):Int))=vN (q.wt+((ku k q.snap).bytes.length+24))from congrArg V.int (by omega),Gv];have X3:=X2.put (q':={q with ring:=q.ring++[ku k q.snap],wt:=q.wt+((ku k q.snap).bytes.length+24)}) rfl rfl;have nac:a'≠c:=λe=>by rw[e,X2.ob]at Xj;exact absurd (HO.ins.inj (aO Xj)).2.2 (by unfold dQ SI md WL R7;simp only [List.zip_cons_cons,List.cons.injEq,Prod.mk.injEq];exact λq=>absurd q.1.1 (by decide +kernel))
  have ob3:(upd H2 c (.ins C dx (dQ {q with ring:=q.ring++[ku k q.snap],wt:=q.wt+((ku k q.snap).bytes.length+24)} fa sa))) a'=_:=(ao nac).trans Xj;have kp3:∀b u,H b=some u->b≠c->b≠fa->(upd H2 c (.ins C dx (dQ {q with ring:=q.ring++[ku k q.snap],wt:=q.wt+((ku k q.snap).bytes.length+24)} fa sa))) b=some u:=λb u e n1 n2=>(ao n1).trans (kp2 b u e n1 n2)
  generalize upd H2 c (.ins C dx (dQ {q with ring:=q.ring++[ku k q.snap],wt:=q.wt+((ku k q.snap).bytes.length+24)} fa sa))=H3 at X3 ob3 kp3 ⊢;refine⟨_,rfl,c,C,dx,_,_,rfl,X3.ob,T.cl,T.nC,Bf _ _ _,_,rfl,a',CF,dz,_,_,rfl,ob3,R.cl,R.nN,xK _ _ _ _ _,_,_,rfl,rfl,_,_,rfl,_,rfl,c,C,dx,_,rfl,X3.ob,T.cl,T.nC,iw _ _ _,?_⟩;have em:(if((k.id:Nat):Int)+1>((q.next:Nat):Int)then((k.id:Nat):Int)+1 else((q.next:Nat):Int))=((max q.next (k.id+1):Nat):Int):=by
   split<;>omega
  show Q .dt (upd H3 c (.ins C dx (bP "coming_number" (V.int (if((k.id:Nat):Int)+1>((q.next:Nat):Int)then((k.id:Nat):Int)+1 else((q.next:Nat):Int))) (dQ {q with ring:=q.ring++[ku k q.snap],wt:=q.wt+((ku k q.snap).bytes.length+24)} fa sa))));rw[em,OU];exact kk _ a' (X3.put rfl rfl) λb u e n1 n2=>(ao n1).trans (kp3 b u e n1 n2)
inductive zl(C CF:Addr)(vs:List V)(H:Hp)(Q:VK)(_E:XK):Prop
 |mk (B:Hp) (c dx fa sa:Addr) (q:Raw) (as:List Addr) (pv:List V):vs=[.ref c]->eB C CF B H c q dx fa sa as pv->q.wt=weight q.ring->(∀(H':Hp) (kf:Addr) (as':List Addr),eB C CF B H' c {q with ring:=trimmed q.room q.ring,wt:=weight (trimmed q.room q.ring)} dx kf sa as' pv->Q (vN (q.ring.length - (trimmed q.room q.ring).length)) H')->zl C CF vs H Q _E
theorem Fw(F:bU K "make_room" "Capture.make_room" gg f fd)(T:aX K mg C)(R:fo K mg CF)(MW:bh aV P w K mg CF "weight" 1 (oY CF)):aP P w K mg base aV 2 f fd ["self"] (zl C CF):=by
 refine F.ok i_ (λvs H Q E h=>?_) (λbG A outer s H vs Q E hr h=>?_)
 ·obtain⟨B,c,dx,fa,sa,q,as,pv,rfl,_⟩:=h;rfl
 ·obtain⟨B,c,dx,fa,sa,q,as,iA,rfl,X,hwt,kk⟩:=h;have nd:=i_.nd;refine⟨_,ae (aB (i:=1) nd rfl (Or.inl rfl) ay)
   (ae (fi PassesOwn.never (aF ux (aD (pv 0) rfl) (aD (pv 0) rfl) (aK _))
    (ae (gT (pv 0) (bT MW R.cl (bu bq (aD (pv 0) rfl) (pv 1) (λ_ _=>rfl)) hr aE) Rm) (ag (lG (i:=1) nd rfl (Or.inl rfl) ay lJ))))
   (ae (cv (pv 0) (de fw (aD (pv 0) rfl) (bQ (pv 1)) ur) rfl) (ag (aq (pv 1))))),?_⟩
  have hlen:as.length=q.ring.length:=Paired.length X.fr;refine eY (λσ H'=>∃i:Nat,σ=[some (.ref c),some (vN i)]/\i<=q.ring.length/\eB C CF B H' c {q with wt:=weight (q.ring.drop i)} dx fa sa as iA/\trimmed q.room q.ring=trimmed q.room (q.ring.drop i))
   (λσ _=>q.ring.length - intAt σ 1) ⟨0,rfl,bw _,?_,rfl⟩ ?_ ?_
  ·rw[List.drop_zero,<-hwt];exact X
  ·rintro σ H1 ⟨i,rfl,hi,X1,et⟩
   refine⟨_,rfl,c,C,dx,_,_,rfl,X1.ob,T.cl,T.nW,Gu _ _ _,_,rfl,c,C,dx,_,_,rfl,X1.ob,T.cl,T.nR,R4 _ _ _,_,_,rfl,rfl,_,rfl,eM (λKN=>?_) λKN=>?_⟩
   ·have Zp:q.room<weight (q.ring.drop i):=by
     have h1:((q.room:Nat):Int)<((weight (q.ring.drop i):Nat):Int):=cj KN;omega
    have eP:i<q.ring.length:=by
     by_cases h:i<q.ring.length
     ·exact h
     ·rw[List.drop_eq_nil_of_le (by omega)]at Zp;exact absurd Zp (Nat.not_lt_zero _)
    have ed:q.ring.drop i=q.ring[i]::q.ring.drop (i+1):=eT eP;obtain⟨k,hk,ka,fm,_⟩:=ox X1.fr (bx (show i<as.length by omega));have ek:k=q.ring[i]:=by
     have:q.ring[i]? =some k:=hk;rw[bx eP]at this;exact(aO this).symm
    obtain⟨dy,ob⟩:=fm.ob;refine⟨_,rfl,c,C,dx,_,_,rfl,X1.ob,T.cl,T.nW,Gu _ _ _,_,rfl,c,C,dx,_,_,rfl,X1.ob,T.cl,T.nF,p7 _ _ _,_,rfl,fa,_,(i:Int),_,rfl,rfl,bp.of X1.fl,bW (by rw[bO,bx (show i<as.length by omega)];rfl),_,dy,_,rfl,ob,Ey (by decide +kernel),_,ka,k,rfl,fm,_,_,rfl,rfl,dx,_,X1.ob,iw _ _ _,?_⟩;have ew:weight (q.ring.drop i)=k.bytes.length+24+weight (q.ring.drop (i+1)):=by rw[ed,G4,ek]
    rw[show V.int (((weight (q.ring.drop i):Nat):Int) - ((k.bytes.length+24:Nat):Int))=vN (weight (q.ring.drop (i+1)))from congrArg V.int (by omega),Gv];have X2:=X1.put (q':={q with wt:=weight (q.ring.drop (i+1))}) rfl rfl;refine⟨_,rfl,_,_,rfl,rfl,?_⟩;refine⟨⟨i+1,?_,eP,X2,?_⟩,?_⟩
    ·show [some (V.ref c),some (V.int ((i:Int)+1))]=_;rw[show(i:Int)+1=((i+1:Nat):Int) by omega]
    ·rw[et,ed,jz,ah (by rw[<-ed];omega)]
    ·show q.ring.length - ((i:Int)+1).toNat<q.ring.length - ((i:Int)).toNat;omega
   ·have hle:weight (q.ring.drop i)<=q.room:=by
     have h1:¬((q.room:Nat):Int)<((weight (q.ring.drop i):Nat):Int):=eQ (Bool.eq_false_iff.mpr KN);omega
    rw[G_ hle]at et;refine⟨_,rfl,c,C,dx,_,_,rfl,X1.ob,T.cl,T.nF,p7 _ _ _,_,rfl,_,rfl,fa,_,rfl,bp.of X1.fl,λkf Cu=>?_⟩;have ec:d4 (as.map V.ref) (some (i:Int)) none=(as.drop i).map V.ref:=by
     unfold d4;rw[HT.pB,HT.ia,aH,Nat.min_eq_left (by omega),eD (by rw[a_,aH];omega),List.map_drop]
    have X2:=X1.same (aA (o:=.lst (d4 (as.map V.ref) (some (i:Int)) none)) Cu);have Zt:(upd H1 kf (.lst (d4 (as.map V.ref) (some (i:Int)) none))) kf=some (.lst ((as.drop i).map V.ref)):=by rw[af,ec]
    have nf:∀x u,H1 x=some u->x≠kf:=λx u e=>au e Cu
    have Sx:∀x u,H1 x=some u->Off B c fa sa x->Off B c kf sa x:=λx u e o=>⟨o.1,o.2.1,nf x u e,o.2.2.2⟩
    have fr2:Frs CF (Off B c kf sa) (upd H1 kf (.lst (d4 (as.map V.ref) (some (i:Int)) none))) (as.drop i) (q.ring.drop i):=Frs.same ((show Frs CF (Off B c fa sa) H1 (as.drop i) (q.ring.drop i)from Mc i X1.fr).FY Sx) (aA Cu);have pg2:Paired (sY (Off B c kf sa) (upd H1 kf (.lst (d4 (as.map V.ref) (some (i:Int)) none)))) iA q.zV:=iN (λ_ _ h=>(h.FY Sx).move λb u _ e=>aA Cu b u e) X1.pg;have ns:kf≠sa:=Ne.symm (nf sa _ X1.sl);have bf:B kf=none:=X1.sm.free Cu;generalize upd H1 kf (.lst (d4 (as.map V.ref) (some (i:Int)) none))=H2 at X2 Zt fr2 pg2 ⊢;refine⟨_,rfl,c,C,dx,_,rfl,X2.ob,T.cl,T.nF,iw _ _ _,?_⟩;rw[ML];refine⟨_,rfl,?_⟩;have X3:=X2.Yo (q':={q with ring:=q.ring.drop i,wt:=weight (q.ring.drop i)}) Zt bf ns fr2 pg2;rw[<-et]at X3;have e5:i=q.ring.length - (trimmed q.room q.ring).length:=by rw[et,a_];omega
    have:=kk _ kf (as.drop i) X3;rw[<-e5]at this;rw[<-et];exact this
  ·intro σ H1 Q1 Q2 hq h;obtain⟨v1,e1,a1,C1,d1,f1,w1,x1,x2,x3,x4,x5,v2,e2,a2,C2,d2,f2,w2,y1,y2,y3,y4,y5,i1,j1,r1,r2,cc,r3,rest⟩:=h;exact⟨v1,e1,a1,C1,d1,f1,w1,x1,x2,x3,x4,x5,v2,e2,a2,C2,d2,f2,w2,y1,y2,y3,y4,y5,i1,j1,r1,r2,cc,r3,hq _ _ rest⟩
end
theorem ug:ax ["self","opened","room","snap","slot"] ["self","opened","room","snap"] (ak gB):=⟨rfl,rfl,rfl,by decide +kernel,rfl,by decide +kernel,by decide +kernel⟩
def FF(o:Bool)(room snap:Nat):Raw:=⟨o,room,snap,0,0,0,0,1, -1,[],List.replicate 16 none⟩
def FieldsAt(i:Nat)(new:List V)(fs:List (Str×V)):Prop:=(fs=(md.take i).zip (new.take i))\/∃old:List V,old.length=11/\fs=md.zip (new.take i++old.drop i)
theorem FieldsAt.len(h:FieldsAt i new fs)(hn:new.length=11):fs.length<1000:=by
 have e:md.length=11:=rfl;rcases h with rfl|⟨old,ho,rfl⟩
 ·rw[List.length_zip,bE];omega
 ·rw[List.length_zip];omega
theorem FieldsAt.next{n:Str}(h:FieldsAt i new fs)(hn:new.length=11)(hi:md[i]? =some n)(hv:new[i]? =some v):FieldsAt (i+1) new (bP n v fs):=by
 have e:md.length=11:=rfl;have eP:i<11:=(List.getElem?_eq_some_iff.mp hi).1;rcases h with rfl|⟨old,ho,rfl⟩
 ·refine .inl ?_;rw[eU hi,eU hv];refine ie (λhm=>?_) (by rw[bE,bE,hn];rfl);obtain⟨j,hj⟩:=List.mem_iff_getElem?.mp hm;have hji:j<i:=by
   have:=(List.getElem?_eq_some_iff.mp hj).1;rw[bE]at this;omega
  rw[List.getElem?_take_of_lt hji]at hj;have:=UR cf hj hi;omega
 ·refine .inr ⟨old,ho,?_⟩;rw[ic (i:=i) cf hi (by rw[ba,bE,a_];omega)]
  congr 1
  have Xs:(new.take i).length=i:=by rw[bE];omega
  rw[List.set_append_right _ _ (by omega),Xs,Nat.sub_self,eU hv,dF]
  congr 1
  rw[eT (show i<old.length by omega)];rfl
theorem FieldsAt.chg{new':List V}(h:FieldsAt i new fs)(e:new.take i=new'.take i):FieldsAt i new' fs:=by
 unfold FieldsAt at h ⊢;rw[<-e];exact h
theorem FieldsAt.all(h:FieldsAt 11 new fs)(hn:new.length=11):fs=md.zip new:=by
 rcases h with rfl|⟨old,ho,rfl⟩
 ·rw[show md.take 11=md from rfl,eD (by omega)]
 ·rw[eD (by omega),List.drop_eq_nil_of_le (by omega),gW]
section
variable {C CF:Addr}
inductive Hn(C:Addr)(vs:List V)(H:Hp)(Q:VK)(_E:XK):Prop
 |mk (c dx:Addr) (o:Bool) (room snap:Nat) (fs:List (Str×V)):vs=[.ref c,.bl o,vN room,vN snap]->H c=some (.ins C dx fs)->((fs=[]\/∃old:List V,old.length=11/\fs=md.zip old))->(∀(H':Hp) (fa sa:Addr),H' c=some (.ins C dx (dQ (FF o room snap) fa sa))->H fa=none->H sa=none->fa≠sa->H' fa=some (.lst [])->H' sa=some (.lst (List.replicate 16 .dt))->(∀b u,H b=some u->b≠c->H' b=some u)->Q .dt H')->Hn C vs H Q _E
theorem H_(F:bU K "make_new" "Capture.make_new" gB f fd)(T:aX K mg C)(N:ml mg):aP P w K mg base aV 1 f fd ["self","opened","room","snap"] (Hn C):=by
 refine F.ok ug (λvs H Q E h=>?_) (λbG A outer s H vs Q E hr h=>?_)
 ·obtain⟨c,dx,o,room,snap,fs,rfl,_⟩:=h;rfl
 ·obtain⟨c,dx,o,room,snap,fs,rfl,hc,U2,k⟩:=h;have nd:=ug.nd;refine⟨_,ae (cv (pv 0) (pv 1) rfl) (ae (cv (pv 0) (pv 2) rfl) (ae (cv (pv 0) (pv 3) rfl) (ae (cv (pv 0) (aY aj) rfl)
   (ae (cv (pv 0) ay rfl) (ae (cv (pv 0) ay rfl) (ae (cv (pv 0) ay rfl) (ae (cv (pv 0) ay rfl) (ae (cv (pv 0) ay rfl)
   (ae (cv (pv 0) (uw (own:=[("slot",4)]) rfl nd (vQ rfl N.Pq (aa (cI N.sl) aj)) (eO rfl) (λs H C cl fp=>bR (i:=4) nd rfl (Or.inl rfl)) (λs H C cl fp=>iT) (λs H C cl fp=>gG)) rfl)
   (ag (cv (pv 0) (cI N.ng) rfl))))))))))),?_⟩
  have f0:FieldsAt 0 (R7 (FF o room snap) c c) fs:=by
   rcases U2 with rfl|⟨old,ho,rfl⟩
   ·exact .inl rfl
   ·exact .inr ⟨old,ho,rfl⟩
  refine⟨_,rfl,_,rfl,c,C,dx,_,rfl,hc,T.cl,T.nO,f0.len rfl,?_⟩;have f1:=f0.next rfl (n:="opened") (v:=.bl o) rfl rfl
  refine⟨_,rfl,_,rfl,c,C,dx,_,rfl,af,T.cl,T.nR,f1.len rfl,?_⟩;have f2:=f1.next rfl (n:="room") (v:=vN room) rfl rfl
  refine⟨_,rfl,_,rfl,c,C,dx,_,rfl,af,T.cl,T.nS,f2.len rfl,?_⟩;have f3:=f2.next rfl (n:="snap") (v:=vN snap) rfl rfl
  have k3:∀b u,H b=some u->b≠c->(upd (upd (upd H c (.ins C dx (bP "opened" (.bl o) fs))) c (.ins C dx (bP "room" (vN room) (bP "opened" (.bl o) fs)))) c (.ins C dx (bP "snap" (vN snap) (bP "room" (vN room) (bP "opened" (.bl o) fs))))) b=some u:=λb u e n=>by rw[ao n,ao n,ao n];exact e
  have h3:(upd (upd (upd H c (.ins C dx (bP "opened" (.bl o) fs))) c (.ins C dx (bP "room" (vN room) (bP "opened" (.bl o) fs)))) c (.ins C dx (bP "snap" (vN snap) (bP "room" (vN room) (bP "opened" (.bl o) fs))))) c=_:=af;generalize bP "snap" (vN snap) (bP "room" (vN room) (bP "opened" (.bl o) fs))=fs3 at f3 k3 h3 ⊢;generalize upd (upd (upd H c (.ins C dx (bP "opened" (.bl o) fs))) c (.ins C dx (bP "room" (vN room) (bP "opened" (.bl o) fs)))) c (.ins C dx fs3)=H3 at k3 h3 ⊢;refine⟨bw _,λfa WA=>?_⟩;have f3':=f3.chg (new':=R7 (FF o room snap) fa c) rfl;have NK:fa≠c:=λe=>by rw[e,h3]at WA;cases WA
  have Zs:H fa=none:=by
   cases e:H fa with
   |none=>rfl
   |some u=>rw[k3 _ _ e NK]at WA;cases WA
  refine⟨_,rfl,c,C,dx,_,rfl,(ao (Ne.symm NK)).trans h3,T.cl,T.nF,f3'.len rfl,?_⟩;have f4:=f3'.next rfl (n:="frames") (v:=.ref fa) rfl rfl
  refine⟨_,rfl,c,C,dx,_,rfl,af,T.cl,T.nW,f4.len rfl,?_⟩;have f5:=f4.next rfl (n:="weighing") (v:=.int 0) rfl rfl
  refine⟨_,rfl,c,C,dx,_,rfl,af,T.cl,T.nSe,f5.len rfl,?_⟩;have f6:=f5.next rfl (n:="seen") (v:=.int 0) rfl rfl
  refine⟨_,rfl,c,C,dx,_,rfl,af,T.cl,T.nRe,f6.len rfl,?_⟩;have f7:=f6.next rfl (n:="refused") (v:=.int 0) rfl rfl
  refine⟨_,rfl,c,C,dx,_,rfl,af,T.cl,T.nG,f7.len rfl,?_⟩;have f8:=f7.next rfl (n:="gone") (v:=.int 0) rfl rfl
  refine⟨_,rfl,c,C,dx,_,rfl,af,T.cl,T.nC,f8.len rfl,?_⟩;have f9:=f8.next rfl (n:="coming_number") (v:=.int 1) rfl rfl
  generalize acG:bP "frames" (V.ref fa) fs3=ZJ at f4 f5 f6 f7 f8 f9 ⊢;generalize acF:bP "weighing" (V.int 0) ZJ=ZI at f5 f6 f7 f8 f9 ⊢;generalize acE:bP "seen" (V.int 0) ZI=ZH at f6 f7 f8 f9 ⊢;generalize acD:bP "refused" (V.int 0) ZH=ZG at f7 f8 f9 ⊢;generalize acC:bP "gone" (V.int 0) ZG=ZF at f8 f9 ⊢;generalize acB:bP "coming_number" (V.int 1) ZF=ZE at f9 ⊢;have k9:∀b u,H b=some u->b≠c->(upd (upd (upd (upd (upd (upd (upd H3 fa (.lst [])) c (.ins C dx ZJ)) c (.ins C dx ZI)) c (.ins C dx ZH)) c (.ins C dx ZG)) c (.ins C dx ZF)) c (.ins C dx ZE)) b=some u:=λb u e n=>by
   rw[ao n,ao n,ao n,ao n,ao n,ao n,ao (au e Zs)];exact k3 b u e n
  have h9:(upd (upd (upd (upd (upd (upd (upd H3 fa (.lst [])) c (.ins C dx ZJ)) c (.ins C dx ZI)) c (.ins C dx ZH)) c (.ins C dx ZG)) c (.ins C dx ZF)) c (.ins C dx ZE)) c=some (.ins C dx ZE):=af;have g9:(upd (upd (upd (upd (upd (upd (upd H3 fa (.lst [])) c (.ins C dx ZJ)) c (.ins C dx ZI)) c (.ins C dx ZH)) c (.ins C dx ZG)) c (.ins C dx ZF)) c (.ins C dx ZE)) fa=some (.lst []):=by
   rw[ao NK,ao NK,ao NK,ao NK,ao NK,ao NK,af]
  generalize upd (upd (upd (upd (upd (upd (upd H3 fa (.lst [])) c (.ins C dx ZJ)) c (.ins C dx ZI)) c (.ins C dx ZH)) c (.ins C dx ZG)) c (.ins C dx ZF)) c (.ins C dx ZE)=H9 at k9 h9 g9 ⊢;refine⟨16,rfl,by decide,by decide,λsa Wo=>?_⟩;have nsa:sa≠c:=λe=>by rw[e,h9]at Wo;cases Wo
  have Sy:fa≠sa:=au g9 Wo;have abN:H sa=none:=by
   cases e:H sa with
   |none=>rfl
   |some u=>rw[k9 _ _ e nsa]at Wo;cases Wo
  refine Rg (λi H'=>H' sa=some (.lst (List.replicate i .dt))/\∀b u,H9 b=some u->H' b=some u) ⟨af,aA Wo⟩ ?_ ?_
  ·rintro i Z7 hi ⟨h10,Tc⟩
   refine⟨rfl,rJ ⟨_,h10,?_,?_,bY Tc Wo⟩⟩
   ·rw[jx];have:i<16:=hi;exact dE (by omega)
   ·rw[af,List.replicate_succ']
  ·rintro Z7 ⟨h10,Tc⟩
   have f9':=f9.chg (new':=R7 (FF o room snap) fa sa) rfl;refine⟨_,rfl,c,C,dx,_,rfl,Tc _ _ h9,T.cl,T.TN,f9'.len rfl,?_⟩;have f10:=f9'.next rfl (n:="slots") (v:=.ref sa) rfl rfl
   refine⟨_,rfl,c,C,dx,_,rfl,af,T.cl,T.Xm,f10.len rfl,?_⟩;have f11:=f10.next rfl (n:="gate") (v:=.int (-1)) rfl rfl
   refine k _ fa sa (by rw[af,f11.all rfl];rfl) Zs abN Sy ?_ ?_ λb u e n=>?_
   ·rw[ao NK,ao NK];exact Tc _ _ g9
   ·rw[ao nsa,ao nsa];exact h10
   ·rw[ao n,ao n];exact Tc _ _ (k9 b u e n)
theorem L0{ok:Addr->Prop}{H:Hp}:∀n,Paired (sY ok H) (List.replicate n .dt) (List.replicate n none)
 |0=>.nil
 |n+1=>.cons rfl (L0 n)
theorem Q_{c:Addr}{B:Hp}{o:Bool}(h1:H' c=some (.ins C dx (dQ (FF o room snap) fa sa)))(h2:fa≠sa)(h3:H' fa=some (.lst []))(h4:H' sa=some (.lst (List.replicate 16 .dt)))(bc:B c=none)(bf:B fa=none)(bs:B sa=none)(sm:a9 B H')(bi:∀x o,B x=some o->Er o):
  eB C CF B H' c (FF o room snap) dx fa sa [] (List.replicate 16 .dt):=⟨h1,h3,.nil,h4,L0 16,h2,bc,bf,bs,sm,bi⟩
inductive yF(C:Addr)(vs:List V)(H:Hp)(Q:VK)(_E:XK):Prop
 |mk (c dx:Addr):vs=[.ref c]->H c=some (.ins C dx [])->(∀(H':Hp) (fa sa:Addr),H' c=some (.ins C dx (dQ (FF false 0 0) fa sa))->H fa=none->H sa=none->fa≠sa->H' fa=some (.lst [])->H' sa=some (.lst (List.replicate 16 .dt))->(∀b u,H b=some u->b≠c->H' b=some u)->Q .dt H')->yF C vs H Q _E
theorem yj(F:bU K "__init__" "Capture.__init__" jZ f fd)(T:aX K mg C)(M:bh aV P w K mg C "make_new" 1 (Hn C)):aP P w K mg base aV 2 f fd ["self"] (yF C):=by
 refine F.ok x6 (λvs H Q E h=>?_) (λbG A outer s H vs Q E hr h=>?_)
 ·obtain⟨c,dx,rfl,_⟩:=h;rfl
 ·obtain⟨c,dx,rfl,hc,k⟩:=h;refine⟨_,ag (aU (dj M T.cl (pv 0) hr aE (aa xA (aa ay (aa ay aj))))),?_⟩;exact⟨_,rfl,c,dx,_,rfl,hc,rfl,c,dx,false,0,0,[],rfl,hc,.inl rfl,k⟩
inductive EN(C CF:Addr)(vs:List V)(H:Hp)(Q:VK)(_E:XK):Prop
 |mk (B:Hp) (c:Addr) (s:Sf84.S) (r n:Int):vs=[.ref c,.int r,.int n]->cy C CF B H c s->Ans C CF B c (Sf84.does s (.open_ r n)) Q->EN C CF vs H Q _E
@[irreducible] def rk(r:Int):Bool:=decide (2048<=r)&&decide (r<=16777216)
theorem vP(r:Int):rk r=true↔2048<=r/\r<=16777216:=by
 unfold rk;rw[bj,aI,aI]
theorem Ef(s:Sf84.S)(r n:Int):Sf84.does s (.open_ r n)=if rk r=false\/j6 n=false then(s,Sf84.says (-1))else({Sf84.closed with room:=r.toNat,snap:=n.toNat},Sf84.says 0):=by
 have e1:Sf84.within r 2048 16777216=rk r:=by
  apply bN;rw[vP];unfold Sf84.within;rw[bj,aI,aI];omega
 have e2:Sf84.within n 1 1518=j6 n:=by
  apply bN;rw[AK];unfold Sf84.within;rw[bj,aI,aI];omega
 show(if Sf84.within r 2048 16777216=false\/Sf84.within n 1 1518=false then _ else _)=_;rw[e1,e2]
theorem Q3(F:bU K "begin" "Capture.begin" jl f fd)(T:aX K mg C)(N:ml mg)(M:bh aV P w K mg C "make_new" 1 (Hn C)):aP P w K mg base aV 2 f fd ["self","room","snap"] (EN C CF):=by
 refine F.ok vF (λvs H Q E h=>?_) (λbG A outer s H vs Q E hr h=>?_)
 ·obtain⟨B,c,s,r,n,rfl,_⟩:=h;rfl
 ·obtain⟨B,c,s,r,n,rfl,X,k⟩:=h;obtain⟨dx,fa,sa,as,iA,XX⟩:=id X;refine⟨_,ae (a7 (PW.pt (jb (du (ij f_ f_ (cI N.lr) (pv 1) (cI N.mr))) (lF (du (ij f_ f_ ay (pv 2) (cI N.mb)))))) (ag (aq (aY (aa (cI N.na) aj)))) aJ)
   (ae (aU (dj M T.cl (pv 0) hr aE (aa xA (aa (pv 1) (aa (pv 2) aj))))) (ag (aq (aY (aa ay aj))))),?_⟩
  rw[Ef]at k;refine⟨_,rfl,chT ?_⟩;rw[show(decide ((2048:Int)<=r)&&decide (r<=16777216))=rk r by unfold rk;rfl];cases hR:rk r with
  |false=>exact cu rfl (cu rfl ⟨one_le,aZ k (by rw[ai (.inl hR)]) X⟩)
  |true=>
  refine cx az ?_;refine⟨_,rfl,chT ?_⟩;show if(!j6 n)=true then _ else _
  cases hn:j6 n with
  |false=>exact cu rfl ⟨one_le,aZ k (by rw[ai (.inr hn)]) X⟩
  |true=>
  refine cx az ?_;rw[ah (fQ hR hn)]at k;have h1:=(vP r).mp hR;have h2:=(AK n).mp hn;refine⟨_,rfl,c,dx,_,rfl,XX.ob,cn _ _ _ (by decide +kernel),_,rfl,_,rfl,c,dx,true,r.toNat,n.toNat,_,?_,XX.ob,.inr ⟨_,rfl,rfl⟩,λH' kf sa' g1 g2 g3 g4 g5 g6 g7=>?_⟩
  ·show [V.ref c,V.bl true,V.int r,V.int n]=[V.ref c,V.bl true,V.int ((r.toNat:Nat):Int),V.int ((n.toNat:Nat):Int)];rw[Int.toNat_of_nonneg (by omega),Int.toNat_of_nonneg (by omega)]
  ·have eo:(r.toNat != 0)=true:=by
    rw[bne_iff_ne];omega
   have er:raw {Sf84.closed with room:=r.toNat,snap:=n.toNat}=FF true r.toNat n.toNat:=by
    unfold raw FF
    congr 1
   have X':cy C CF B H' c {Sf84.closed with room:=r.toNat,snap:=n.toNat}:=by
    refine⟨dx,kf,sa',[],List.replicate 16 .dt,?_⟩;rw[er];exact Q_ g1 g4 g5 g6 XX.bc (XX.sm.free g2) (XX.sm.free g3) (λb u e=>g7 b u (XX.sm b u e) (au e XX.bc)) XX.bi
   exact⟨one_le,aZ k rfl X'⟩
end
def passes(s:Sf84.S)(b:Bytes):Bool:=match s.gate.bind s.program with
 |some c=>c.says b
 |none=>true
def Ax(s:Sf84.S)(t y:Nat)(b:Bytes):Sf84.Kept:=⟨s.next,t,y,b.length,b.take s.snap⟩
def Sg(s:Sf84.S)(t y:Nat)(b:Bytes):Sf84.S×Sf84.Ans:=if passes s b=false then({s with seen:=s.seen+1,refused:=s.refused+1},Sf84.says 0)else
 ({s with seen:=s.seen+1,ring:=trimmed s.room (s.ring++[Ax s t y b]),next:=s.next+1,gone:=s.gone+((s.ring++[Ax s t y b]).length - (trimmed s.room (s.ring++[Ax s t y b])).length)},Sf84.says (s.next:Int))
theorem IS(s:Sf84.S)(t:Nat)(y:Int)(b:Bytes):Sf84.does s (.add t y b)=if s.isOpen=false\/kC (t:Int)=false\/mn y=false\/j6 (b.length:Int)=false then(s,Sf84.says (-1))else Sg s t y.toNat b:=by
 have e1:Sf84.within y 0 1=mn y:=by
  apply bN;unfold Sf84.within mn;rw[bj,Bool.or_eq_true,aI,aI,aI,aI];omega
 have e2:(2 ^ 63<=t)=(kC (t:Int)=false):=by
  have e:(2:Nat) ^ 63=9223372036854775808:=by decide
  rw[e];apply propext;cases h:kC (t:Int)with
  |true=>
   have:=(qp _).mp h;exact⟨λq=>by omega,λq=>by cases q⟩
  |false=>
   refine⟨λ_=>rfl,λ_=>?_⟩;apply Classical.byContradiction;intro q;rw[(qp _).mpr ⟨by omega,by omega⟩]at h;cases h
 show(if s.isOpen=false\/2 ^ 63<=t\/Sf84.within y 0 1=false\/Sf84.frameOk b=false then(s,Sf84.says (-1))else((s.add t y.toNat b).1,Sf84.says (s.add t y.toNat b).2))=_;rw[e1,xJ];have e3:((s.add t y.toNat b).1,Sf84.says (s.add t y.toNat b).2)=Sg s t y.toNat b:=by
  have e4:s.add t y.toNat b=if passes s b=false then({s with seen:=s.seen+1,refused:=s.refused+1},0)else
    ({s with seen:=s.seen+1,ring:=trimmed s.room (s.ring++[Ax s t y.toNat b]),next:=s.next+1,gone:=s.gone+((s.ring++[Ax s t y.toNat b]).length - (trimmed s.room (s.ring++[Ax s t y.toNat b])).length)},(s.next:Int)):=rfl
  rw[e4];unfold Sg;by_cases h:passes s b=false
  ·rw[ai h,ai h]
  ·rw[ah h,ah h]
 rw[e3];by_cases h:s.isOpen=false\/kC (t:Int)=false\/mn y=false\/j6 (b.length:Int)=false
 ·rw[ai h,ai];rcases h with h|h|h
  ·exact .inl h
  ·exact .inr (.inl (by rw[e2];exact h))
  ·exact .inr (.inr h)
 ·rw[ah h,ah]
  rintro(q|q|q)
  ·exact h (.inl q)
  ·exact h (.inr (.inl (by rw[<-e2];exact q)))
  ·exact h (.inr (.inr q))
section
variable {C CF:Addr}
theorem Oh{c:Addr}{s:Sf84.S}{σ:L2.St}{Q:Bool->Hp->Prop}(T:aX K mg C)(X:eB C CF B H c {raw s with seen:=n} dx fa sa as iA)(G:Good s)(hb:dI H ra b)(Mq:b.length<=1600)(h0:σ[0]? =some (some (.ref c)))(h3:σ[3]? =some (some (.ref ra)))
  (q:∀H',a9 H H'->Q (!passes s b) H'):XZ (Dx (Hf rNe (zh K (dJ 0) "gate") (tC (.int (-1))))) (XQ (tB (zi rK [] E0 (d5 (Hf (Qr K) (zh K (dJ 0) "slots") (zh K (dJ 0) "gate")) (d5 (dJ 3) gj))))) σ H Q:=by
 refine⟨_,h0,c,C,dx,_,_,rfl,X.ob,T.cl,T.Xm,R6 _ _ _,rfl,_,rfl,?_⟩;show if(!decide (V.int (xI s.gate)=V.int (-1)))=true then _ else _
 unfold passes at q;cases hg:s.gate with
 |none=>
  rw[hg]at q;exact cx (by decide) (q H (a9.refl H))
 |some g=>
  rw[hg]at q;obtain⟨hg1,hg2⟩:=G.gt g hg;have ne:¬V.int ((g:Nat):Int)=V.int (-1):=λe=>by
   have:=V.int.inj e;omega
  refine cu (by show(!decide (V.int ((g:Nat):Int)=V.int (-1)))=true;rw[aQ ne];rfl) ?_;cases hp:s.program g with
  |none=>rw[hp]at hg2;cases hg2
  |some code=>
  have q':∀H',a9 H H'->Q (!Sf84.Code.says code b) H':=by
   intro H' sm;have:=q H' sm;rw[show(some g).bind s.program=s.program g from rfl,hp]at this;exact this
  have hl:iA.length=s.programs.length:=Paired.length X.pg;have hgl:g<iA.length:=by rw[hl,G.pl];exact hg1
  obtain⟨o,ho,hpg⟩:=ox X.pg (bx hgl);have eo:o=some code:=by
   unfold Sf84.S.program at hp;rw[show s.programs[g]? =some o from ho]at hp;exact hp
  subst eo;obtain⟨p,rs,hv,hc,_⟩:=hpg;refine⟨_,h0,c,C,dx,_,_,rfl,X.ob,T.cl,T.TN,pZ _ _ _,_,h0,c,C,dx,_,_,rfl,X.ob,T.cl,T.Xm,R6 _ _ _,sa,_,((g:Nat):Int),_,rfl,?_,bp.of X.sl,bW (by rw[bx hgl,hv]),_,h3,p,ra,code,rs,b,rfl,hc,G.pf _ _ hp,hb,Sh (by omega),λH' sm=>⟨_,rfl,q' H' sm⟩⟩;show V.int (xI s.gate)=_;rw[hg];rfl
inductive LV(C CF:Addr)(vs:List V)(H:Hp)(Q:VK)(_E:XK):Prop
 |mk (B:Hp) (c ra:Addr) (s:Sf84.S) (t:Nat) (y:Int) (b:Bytes):vs=[.ref c,vN t,.int y,.ref ra]->cy C CF B H c s->Good s->dI B ra b->b.length<=1600->Ans C CF B c (Sf84.does s (.add t y b)) Q->LV C CF vs H Q _E
theorem FD(F:bU K "add_frame" "Capture.add_frame" gh f fd)(T:aX K mg C)(R:fo K mg CF)(N:ml mg)(MF:Makes P w K mg CF 1 (jM CF))(MK:bh aV P w K mg C "keep" 4 (zo C CF))(MR:bh aV P w K mg C "make_room" 2 (zl C CF))
  (mT:mg "is_time"=some (.ref fT)) (cT:Calls aV P w K mg fT 1 zj) (mW:mg "is_way"=some (.ref fW)) (cW:Calls aV P w K mg fW 1 Hl) (mL:mg "is_length"=some (.ref fL)) (cL:Calls aV P w K mg fL 1 qx) (mY:mg "says_yes"=some (.ref fY)) (cY:Calls aV P w K mg fY 4 rK):
  aP P w K mg base aV 5 f fd ["self","time","way","frame"] (LV C CF):=by
 refine F.ok ja (λvs H Q E h=>?_) (λbG A outer s H vs Q E hr h=>?_)
 ·obtain⟨B,c,ra,s,t,y,b,rfl,_⟩:=h;rfl
 ·obtain⟨B,c,ra,s,t,y,b,rfl,X,G,hb,Mq,k⟩:=h;have nd:=ja.nd;obtain⟨dx,fa,sa,as,iA,XX⟩:=id X;have jL:=hr.mono (show 1<=4 by decide);have Wq:=hr.mono (show 2<=4 by decide);refine⟨_,ae (a7 (PW.pt (jb (du (dc (aD (pv 0) rfl))) (jb (du (dc (aR cT mT jL aE (aa (pv 1) aj)))) (jb (du (dc (aR cW mW jL aE (aa (pv 2) aj)))) (lF (du (dc (aR cL mL jL aE (aa (dX N.len (pv 3)) aj))))))))) (ag (aq (aY (aa (cI N.na) aj)))) aJ)
   (ae (gT (pv 0) ay wC)
   (ae (a7 (PW.pt (Qs (aF j0 (aD (pv 0) rfl) (cI N.ng) (aK _)) (L4 (du (dc (aR cY mY hr aE (aa (bu bq (aD (pv 0) rfl) (aD (pv 0) rfl) (λ_ _=>rfl)) (aa (pv 3) aj)))))))) (ae (gT (pv 0) ay wC) (ag (aq (aY (aa ay aj))))) aJ)
   (ae (aB (i:=4) nd rfl (Or.inl rfl) (aD (pv 0) rfl))
   (ae (aU (dj MK T.cl (pv 0) hr aE (aa (kO MF R.nm Wq (aa (pv 4) (aa (pv 1) (aa (pv 2) (aa (dX N.len (pv 3)) (aa (pv 3) aj)))))) aj)))
   (ae (gT (pv 0) (bT MR T.cl (pv 0) Wq aE) wC) (ag (aq (aY (aa (pv 4) aj))))))))),?_⟩
  rw[IS]at k;refine⟨_,rfl,c,C,dx,_,_,rfl,XX.ob,T.cl,T.nO,Be _ _ _,_,rfl,?_⟩;show if(!s.isOpen)=true then _ else _
  cases ho:s.isOpen with
  |false=>exact cu rfl (cu rfl ⟨one_le,aZ k (by rw[ai (.inl ho)]) X⟩)
  |true=>
  refine cx az ?_;refine⟨_,rfl,_,rfl,_,rfl,?_⟩;cases hT:kC (t:Int)with
  |false=>exact cu rfl (cu rfl ⟨one_le,aZ k (by rw[ai (.inr (.inl hT))]) X⟩)
  |true=>
  refine cx az ?_;refine⟨_,rfl,y,rfl,λH1 s1=>⟨_,rfl,?_⟩⟩;have X1:=X.same s1;cases hy:mn y with
  |false=>exact cu rfl (cu rfl ⟨one_le,aZ k (by rw[ai (.inr (.inr (.inl hy)))]) X1⟩)
  |true=>
  refine cx az ?_;have SE:=X1.sm _ _ hb;refine⟨_,rfl,ra,_,rfl,.inl (bp.of SE),_,rfl,_,rfl,?_⟩;rw[dq];cases hL:j6 (b.length:Int)with
  |false=>exact cu rfl ⟨one_le,aZ k (by rw[ai (.inr (.inr (.inr hL)))]) X1⟩
  |true=>
  refine cx az ?_;have Zb:¬(s.isOpen=false\/kC (t:Int)=false\/mn y=false\/j6 (b.length:Int)=false):=by
   rw[ho,hT,hy,hL]
   rintro(q|q|q|q)<;>cases q
  rw[ah Zb]at k;have XX1:=XX.same s1;refine⟨_,rfl,c,C,dx,_,_,rfl,XX1.ob,T.cl,T.nSe,Jj _ _ _,_,_,rfl,rfl,dx,_,XX1.ob,iw _ _ _,?_⟩;rw[show V.int (((raw s).seen:Nat)+1:Int)=vN (s.seen+1)from congrArg V.int (by show((s.seen:Nat):Int)+1=_;omega),OS];have X2:=XX1.put (q':={raw s with seen:=s.seen+1}) rfl rfl;generalize upd H1 c (.ins C dx (dQ {raw s with seen:=s.seen+1} fa sa))=H2 at X2 ⊢;refine Oh T X2 G (X2.sm _ _ hb) Mq rfl rfl λH3 s3=>?_
  have X3:=X2.same s3;unfold Sg at k;cases hps:passes s b with
  |false=>
   rw[hps,ai rfl]at k;refine cu rfl ?_;refine⟨_,rfl,c,C,dx,_,_,rfl,X3.ob,T.cl,T.nRe,Jk _ _ _,_,_,rfl,rfl,dx,_,X3.ob,iw _ _ _,one_le,?_⟩;rw[show V.int (((raw s).Qn:Nat)+1:Int)=vN (s.refused+1)from congrArg V.int (by show((s.refused:Nat):Int)+1=_;omega),OT];exact aZ k rfl ⟨dx,fa,sa,as,iA,X3.put rfl rfl⟩
  |true=>
  rw[hps,ah (show ¬true=false from Bool.noConfusion)]at k;refine cx az ?_;have hb3:=X3.sm _ _ hb;refine⟨_,rfl,c,C,dx,_,_,rfl,X3.ob,T.cl,T.nC,Bf _ _ _,?_⟩;refine⟨_,rfl,c,dx,_,rfl,X3.ob,cn _ _ _ (by decide +kernel),_,rfl,_,rfl,_,rfl,_,rfl,ra,_,rfl,.inl (bp.of hb3),_,rfl,?_⟩;intro x XG hx pS fR;have ey:V.int y=vN y.toNat:=by
   have:mn y=true:=hy;unfold mn at this;rw[Bool.or_eq_true,aI,aI]at this;exact congrArg V.int (by omega)
  rw[dq,ey];refine⟨x,XG,_,_,_,_,_,rfl,af,λH4 h4 kp=>⟨rfl,?_⟩⟩;have s4:a9 H3 H4:=a9.made hx pS kp;have X4:=X3.same s4;have fm:kS CF H4 x ra ⟨s.next,t,y.toNat,b.length,b⟩:=⟨⟨XG,h4⟩,s4 _ _ hb3⟩;have hal:as.length=s.ring.length:=Paired.length XX.fr;have hrl:=G.len;refine⟨B,c,dx,fa,sa,x,ra,_,as,iA,_,rfl,X4,fm,by omega,λH5 a5 X5 _=>?_⟩;obtain⟨q5,hq5⟩:∃q5:Raw,q5=⟨s.isOpen,s.room,s.snap,weight s.ring+((b.take s.snap).length+24),s.seen+1,s.refused,s.gone,max s.next (s.next+1),xI s.gate,s.ring++[Ax s t y.toNat b],s.programs⟩:=⟨_,rfl⟩;have X5:eB C CF B H5 c q5 dx fa sa (as++[a5]) iA:=by rw[hq5];exact X5
  refine⟨_,rfl,c,C,dx,_,_,rfl,X5.ob,T.cl,T.nG,Jl _ _ _,_,rfl,c,dx,_,rfl,X5.ob,cn _ _ _ (by decide +kernel),B,c,dx,fa,sa,q5,_,iA,rfl,X5,?_,λH6 fa6 as6 X6=>?_⟩
  ·rw[hq5];show weight s.ring+((b.take s.snap).length+24)=weight (s.ring++[Ax s t y.toNat b]);rw[yW];rfl
  ·refine⟨_,_,rfl,rfl,dx,_,X6.ob,iw _ _ _,?_⟩;rw[show V.int (((q5.gone:Nat):Int)+((q5.ring.length - (trimmed q5.room q5.ring).length:Nat):Int))=vN (q5.gone+(q5.ring.length - (trimmed q5.room q5.ring).length))from congrArg V.int (by omega),OV];refine⟨_,rfl,one_le,aZ k rfl ⟨dx,fa6,sa,as6,iA,?_⟩⟩;have X7:=X6.put (q':={q5 with ring:=trimmed q5.room q5.ring,wt:=weight (trimmed q5.room q5.ring),gone:=q5.gone+(q5.ring.length - (trimmed q5.room q5.ring).length)}) rfl rfl;have eq:raw {s with seen:=s.seen+1,ring:=trimmed s.room (s.ring++[Ax s t y.toNat b]),next:=s.next+1,gone:=s.gone+((s.ring++[Ax s t y.toNat b]).length - (trimmed s.room (s.ring++[Ax s t y.toNat b])).length)}={q5 with ring:=trimmed q5.room q5.ring,wt:=weight (trimmed q5.room q5.ring),gone:=q5.gone+(q5.ring.length - (trimmed q5.room q5.ring).length)}:=by
    rw[hq5,show max s.next (s.next+1)=s.next+1 by omega];rfl
   rw[eq];exact X7
end
def GK:Nat->List Sf84.Kept->Prop
 |_,[]=>True
 |last,k::l=>last<k.id/\GK k.id l
theorem ib:∀(f last:Nat) (r:Bytes) (l:List Sf84.Kept),Sf84.restored f last r=some l->GK last l/\(∀k∈l,k.way<=1/\k.bytes.length<=1518)/\l.length<=r.length
 |0,_,_,_,h=>by cases h
 |f+1,last,r,l,h=>by
  by_cases hr:r=[]
  ·subst hr;rw[uk]at h;cases h;exact⟨trivial,λk hk=>(by cases hk),aM _⟩
  ·by_cases hg:GoodR r
   ·by_cases hl:last<(gE r).id
    ·rw[xx hr hg hl]at h;cases e:Sf84.restored f (gE r).id (r.drop (21+pW r))with
     |none=>rw[e]at h;cases h
     |some m=>
      rw[e]at h;cases h;obtain⟨h1,h2,h3⟩:=ib f _ _ m e;refine⟨⟨hl,h1⟩,λk hk=>?_,?_⟩
      ·rcases List.mem_cons.mp hk with rfl|hk
       ·refine⟨hg.way,?_⟩;have:=hg.cnt;have:=hg.hi;show((r.drop 21).take (pW r)).length<=1518;rw[bE];omega
       ·exact h2 k hk
      ·rw[a_]at h3;have:=hg.len;show m.length+1<=_;omega
    ·rw[um hr (by omega)]at h;cases h
   ·rw[uo hr hg]at h;cases h
def V0(n:Nat)(l:List Sf84.Kept):Nat:=l.foldl (λn k=>max n (k.id+1)) n
theorem Ig:∀(l:List Sf84.Kept) (last n:Nat),GK last l->last+1<=n\/l=[]\/True->V0 n l=max n ((l.getLast?.map λ(k:Sf84.Kept)=>k.id+1).getD 0)
 |[],_,n,_,_=>by
  show n=max n 0;omega
 |[k],last,n,_,_=>by
  show max n (k.id+1)=max n (k.id+1);rfl
 |k::k2::l,last,n,h,_=>by
  have ih:=Ig (k2::l) k.id (max n (k.id+1)) h.2 (.inr (.inr trivial));show V0 (max n (k.id+1)) (k2::l)=_;rw[ih];have e:(k::k2::l).getLast?=(k2::l).getLast?:=rfl;rw[e];have Zq:∀(l:List Sf84.Kept) (last:Nat),GK last l->l≠[]->last+1<=((l.getLast?.map λ(k:Sf84.Kept)=>k.id+1).getD 0):=by
   intro l
   induction l with
   |nil=>intro last _ h;exact absurd rfl h
   |cons x l ihl=>
    intro last hr _;cases l with
    |nil=>
     have:=hr.1;show last+1<=x.id+1;omega
    |cons y l=>
     have h1:=ihl x.id hr.2 (by simp);have h2:=hr.1;have e2:(x::y::l).getLast?=(y::l).getLast?:=rfl;rw[e2];omega
  have:=Zq (k2::l) k.id h.2 (by simp);omega
def LZ(s:Sf84.S)(b:Bytes):Sf84.S×Sf84.Ans:=match mq b with
 |none=>(s,Sf84.says (-3))
 |some l=>({s with ring:=trimmed s.room (l.map λk=>ku k s.snap),next:=V0 s.next l},Sf84.says (trimmed s.room (l.map λk=>ku k s.snap)).length)
theorem uZ{s:Sf84.S}(G:Good s)(b:Bytes):Sf84.does s (.restore b)=if s.isOpen=false then(s,Sf84.says (-1))else LZ s b:=by
 show(if s.isOpen=false then(s,Sf84.says (-1))else if b.take 4≠Sf84.MAGIC then(s,Sf84.says (-3))else match Sf84.restored (b.length+1) 0 (b.drop 4)with
  |none=>(s,Sf84.says (-3))
  |some l=>({s with ring:=trimmed s.room (l.map λk=>ku k s.snap),next:=max s.next ((l.getLast?.map λ(k:Sf84.Kept)=>k.id+1).getD 1)},Sf84.says (trimmed s.room (l.map λk=>ku k s.snap)).length))=_
 congr 1
 unfold LZ mq;by_cases hm:b.take 4≠Sf84.MAGIC
 ·rw[ai hm,ai hm]
 ·rw[ah hm,ah hm];cases hr:Sf84.restored (b.length+1) 0 (b.drop 4)with
  |none=>rfl
  |some l=>
   have h1:=(ib _ _ _ _ hr).1;have e:max s.next ((l.getLast?.map λ(k:Sf84.Kept)=>k.id+1).getD 1)=V0 s.next l:=by
    rw[Ig l 0 s.next h1 (.inr (.inr trivial))];have:=G.next
    cases l.getLast? with
    |none=>show max s.next 1=max s.next 0;omega
    |some k=>rfl
   dsimp only;rw[e]
section
variable {C CF:Addr}
inductive qu(C CF:Addr)(vs:List V)(H:Hp)(Q:VK)(_E:XK):Prop
 |mk (B:Hp) (c ra:Addr) (s:Sf84.S) (b:Bytes):vs=[.ref c,.ref ra]->cy C CF B H c s->Good s->dI B ra b->b.length<=15000->Ans C CF B c (Sf84.does s (.restore b)) Q->qu C CF vs H Q _E
def HF(s:Sf84.S)(l:List Sf84.Kept):Raw:=⟨s.isOpen,s.room,s.snap,weight (l.map λk=>ku k s.snap),s.seen,s.refused,s.gone,V0 s.next l,xI s.gate,l.map λk=>ku k s.snap,s.programs⟩
theorem J2(s:Sf84.S)(l:List Sf84.Kept)(k:Sf84.Kept):Ri (HF s l) k=HF s (l++[k]):=by
 unfold HF Ri V0;rw[bH,yW,List.foldl_append];rfl
theorem yb(F:bU K "restore_file" "Capture.restore_file" eI f fd)(T:aX K mg C)(R:fo K mg CF)(N:ml mg)(MK:bh aV P w K mg C "keep" 4 (zo C CF))(MR:bh aV P w K mg C "make_room" 2 (zl C CF))
  (mF:mg "frames_of_file"=some (.ref fF)) (cF:Calls aV P w K mg fF 4 (tW CF)):aP P w K mg base aV 5 f fd ["self","file"] (qu C CF):=by
 refine F.ok gQ (λvs H Q E h=>?_) (λbG A outer s H vs Q E hr h=>?_)
 ·obtain⟨B,c,ra,s,b,rfl,_⟩:=h;rfl
 ·obtain⟨B,c,ra,s,b,rfl,X,G,hb,Mq,k⟩:=h;have nd:=gQ.nd;obtain⟨dx,fa,sa,as,iA,XX⟩:=id X;have hb0:=X.sm _ _ hb;refine⟨_,ae (a7 (du (dc (aD (pv 0) rfl))) (ag (aq (aY (aa (cI N.na) aj)))) aJ)
   (ae (aB (i:=2) nd rfl (Or.inl rfl) (aR cF mF hr aE (aa (pv 1) aj)))
   (ae (a7 (jm (vR (pv 2))) (ag (aq (aY (aa (cI N.nf) aj)))) aJ)
   (ae (cv (pv 0) (aY aj) rfl)
   (ae (cv (pv 0) ay rfl)
   (ae (gF PassesOwn.never rfl (dG (pv 2)) (bR (i:=3) nd rfl (Or.inl rfl)) (ag (aU (dj MK T.cl (pv 0) hr aE (aa (pv 3) aj)))))
   (ae (aU (bT MR T.cl (pv 0) (hr.mono (by decide)) aE))
   (ag (aq (aY (aa (dX N.len (aD (pv 0) rfl)) aj)))))))))),?_⟩
  rw[uZ G]at k;refine⟨_,rfl,c,C,dx,_,_,rfl,XX.ob,T.cl,T.nO,Be _ _ _,_,rfl,?_⟩;show if(!s.isOpen)=true then _ else _
  cases ho:s.isOpen with
  |false=>exact cu rfl ⟨one_le,aZ k (by rw[ai ho]) X⟩
  |true=>
  refine cx az ?_;rw[ah (by rw[ho];exact Bool.noConfusion)]at k;unfold LZ at k;refine⟨_,rfl,ra,b,rfl,hb0,by omega,λeu H1 s1=>?_,λks eu H1 d bs s1 hd hl hf=>?_⟩
  ·rw[eu]at k;exact⟨_,rfl,_,rfl,cu rfl ⟨one_le,aZ k rfl (X.same s1)⟩⟩
  rw[eu]at k;dsimp only at k;refine⟨_,rfl,_,rfl,cx az ?_⟩;have X1:=XX.same s1;have hkl:ks.length<=1000000:=by
   have e:mq b=some ks:=eu;unfold mq at e;by_cases hm:b.take 4≠Sf84.MAGIC
   ·rw[ai hm]at e;cases e
   ·rw[ah hm]at e;have:=(ib _ _ _ _ e).2.2;rw[a_]at this;omega
  refine⟨bw _,λkf Cu=>?_⟩;have X2:=X1.same (aA (o:=.lst []) Cu);have nf:∀x u,H1 x=some u->x≠kf:=λx u e=>au e Cu
  have Sx:∀x u,H1 x=some u->Off B c fa sa x->Off B c kf sa x:=λx u e o=>⟨o.1,o.2.1,nf x u e,o.2.2.2⟩
  have pg2:Paired (sY (Off B c kf sa) (upd H1 kf (.lst []))) iA s.programs:=iN (λ_ _ h=>(h.FY Sx).move λb u _ e=>aA Cu b u e) X1.pg;have X3:=X2.Yo (q':={raw s with ring:=[]}) (as':=[]) af (X1.sm.free Cu) (Ne.symm (nf sa _ X1.sl)) .nil pg2;refine⟨_,rfl,c,C,dx,_,rfl,X2.ob,T.cl,T.nF,iw _ _ _,?_⟩;rw[ML];have k3:∀x u,H1 x=some u->x≠c->(upd (upd H1 kf (.lst [])) c (.ins C dx (dQ (raw s) kf sa))) x=some u:=λx u e n=>by
   rw[ao n,ao (nf x u e)];exact e
  have X3:eB C CF B (upd (upd H1 kf (.lst [])) c (.ins C dx (dQ (raw s) kf sa))) c {raw s with ring:=[]} dx kf sa [] iA:=X3;generalize upd (upd H1 kf (.lst [])) c (.ins C dx (dQ (raw s) kf sa))=H3 at X3 k3 ⊢;refine⟨_,rfl,c,C,dx,_,rfl,X3.ob,T.cl,T.nW,iw _ _ _,?_⟩;rw[show V.int 0=vN 0 from rfl,Gv];have X4:=X3.put (q':={raw s with ring:=[],wt:=0}) rfl rfl;have k4:∀x u,H1 x=some u->x≠c->(upd H3 c (.ins C dx (dQ {raw s with ring:=[],wt:=0} kf sa))) x=some u:=λx u e n=>(ao n).trans (k3 x u e n)
  have X4:eB C CF B (upd H3 c (.ins C dx (dQ {raw s with ring:=[],wt:=0} kf sa))) c (HF s []) dx kf sa [] iA:=X4;generalize upd H3 c (.ins C dx (dQ {raw s with ring:=[],wt:=0} kf sa))=H4 at X4 k4 ⊢;have ncd:d≠c:=Ne.symm (au XX.ob hd);have Xq:=k4 _ _ hl ncd;have hf1:Frs CF (λx=>x≠c/\x≠kf) H1 bs ks:=hf.FY λa u e o=>⟨Ne.symm (au XX.ob o.1),nf a u e⟩
  have hf4:=hf1.move (H':=H4) λx u o e=>k4 x u e o.1
  have WU:bs.length=ks.length:=Paired.length hf;refine⟨_,rfl,d,rfl,⟨_,bp.of Xq⟩,je (K:=K) (a:=d) (xs:=bs.map V.ref) (λi σ H'=>∃(as4:List Addr) (v:Option V),σ=[some (.ref c),some (.ref ra),some (.ref d),v]/\as4.length=i/\eB C CF B H' c (HF s (ks.take i)) dx kf sa as4 iA/\H' d=some (.lst (bs.map V.ref))/\Frs CF (λx=>x≠c/\x≠kf) H' bs ks)
   ⟨[],none,rfl,rfl,X4,Xq,hf4⟩ (λi σ H' _ ⟨_,_,_,_,_,h5,_⟩=>bp.of h5) ?_ ?_⟩
  ·rintro i y σ H5 hi ⟨as5,v,rfl,D8,X5,Ub,hf5⟩
   obtain⟨a,ha,rfl⟩:=iV hi;obtain⟨kk,hk,ka,fm,_⟩:=ox hf5 ha;have hik:i<ks.length:=(List.getElem?_eq_some_iff.mp hk).1;refine⟨_,rfl,c,dx,_,rfl,X5.ob,cn _ _ _ (by decide +kernel),_,rfl,B,c,dx,kf,sa,a,ka,_,as5,iA,kk,rfl,X5,fm,by omega,λH6 a6 X6 kp=>?_⟩;rw[J2,<-eU hk]at X6;have nfd:d≠kf:=nf d _ hl;exact⟨as5++[a6],some (.ref a),rfl,by rw[ba,D8];rfl,X6,kp _ _ Ub ncd nfd,hf5.move λx u o e=>kp x u e o.1 o.2⟩
  ·rintro σ H5 ⟨as5,v,rfl,D8,X5,Ub,hf5⟩
   rw[aH,WU,List.take_length]at X5;refine⟨_,rfl,c,dx,_,rfl,X5.ob,cn _ _ _ (by decide +kernel),B,c,dx,kf,sa,_,as5,iA,rfl,X5,rfl,λH6 fa6 as6 X6=>?_⟩;refine⟨_,rfl,c,C,dx,_,_,rfl,X6.ob,T.cl,T.nF,p7 _ _ _,fa6,_,rfl,.inl (bp.of X6.fl),one_le,?_⟩;rw[aH,Paired.length X6.fr];exact aZ k rfl ⟨dx,fa6,sa,as6,iA,X6⟩
end
theorem HH{ps:List (Option Sf84.Code)}{o:Option Sf84.Code}(hi:i<ps.length):((ps.set i o)[k]?).join=if k=i then o else(ps[k]?).join:=by
 by_cases h:k=i
 ·rw[ai h,h,gr hi];cases o<;>rfl
 ·rw[ah h,List.getElem?_set_ne (λq=>h q.symm)]
theorem xH{snap:Nat}(h:room<=16777216):Good {Sf84.closed with room:=room,snap:=snap}:=by
 have e:∀k,Sf84.S.program {Sf84.closed with room:=room,snap:=snap} k=none:=λk=>by
  show((List.replicate 16 (none:Option Sf84.Code))[k]?).join=none;rw[List.getElem?_replicate];split<;>rfl
 refine⟨rfl,λk c hc=>?_,λk hk=>(by cases hk),λk hk=>(by cases hk),bw _,aM _,h⟩;rw[e]at hc;cases hc
theorem KS:Good Sf84.closed:=xH (room:=0) (snap:=0) (by decide)
theorem Good.set{s:Sf84.S}(G:Good s){i:Nat}{o:Option Sf84.Code}(hi:i<16)(hf:∀c,o=some c->Sf84.fault c=none)(hg:s.gate=some i->o.isSome=true):Good {s with programs:=s.programs.set i o}:=by
 have e:∀k,Sf84.S.program {s with programs:=s.programs.set i o} k=if k=i then o else s.program k:=λk=>HH (by rw[G.pl];exact hi)
 refine⟨by show(s.programs.set i o).length=16;rw[List.length_set];exact G.pl,λk c hc=>?_,λk hk=>?_,G.ring,G.wt,G.next,G.rm⟩
 ·rw[e]at hc;by_cases h:k=i
  ·rw[ai h]at hc;exact hf c hc
  ·rw[ah h]at hc;exact G.pf k c hc
 ·obtain⟨h1,h2⟩:=G.gt k hk;refine⟨h1,?_⟩;rw[e];by_cases h:k=i
  ·rw[ai h];have AV:s.gate=some k:=hk;rw[h]at AV;exact hg AV
  ·rw[ah h];exact h2
theorem Og{s:Sf84.S}(G:Good s)(q:Sf84.Call):Good (Sf84.does s q).1:=by
 cases q with
 |open_ r n=>
  rw[Ef];by_cases h:rk r=false\/j6 n=false
  ·rw[ai h];exact G
  ·rw[ah h];have hr:rk r=true:=by
    cases e:rk r with
    |true=>rfl
    |false=>exact absurd (.inl e) h
   have:=(vP r).mp hr;exact xH (by omega)
 |add t y b=>
  rw[IS];by_cases h:s.isOpen=false\/kC (t:Int)=false\/mn y=false\/j6 (b.length:Int)=false
  ·rw[ai h];exact G
  ·rw[ah h];unfold Sg;by_cases hp:passes s b=false
   ·rw[ai hp];exact⟨G.pl,G.pf,G.gt,G.ring,G.wt,G.next,G.rm⟩
   ·rw[ah hp];have hy:mn y=true:=by
     cases e:mn y with
     |true=>rfl
     |false=>exact absurd (.inr (.inr (.inl e))) h
    have hl:j6 (b.length:Int)=true:=by
     cases e:j6 (b.length:Int)with
     |true=>rfl
     |false=>exact absurd (.inr (.inr (.inr e))) h
    have hl':=(AK _).mp hl;unfold mn at hy;rw[Bool.or_eq_true,aI,aI]at hy;refine⟨G.pl,G.pf,G.gt,λk hk=>?_,a8 (rG _ _) G.rm,a8 G.next (Nat.le_succ _),G.rm⟩;rcases List.mem_append.mp (oW _ _ k hk)with hk|hk
    ·exact G.ring k hk
    ·rw[List.mem_singleton.mp hk];refine⟨?_,?_⟩
     ·show y.toNat<=1;omega
     ·show(b.take s.snap).length<=1518;rw[bE];omega
 |counts=>exact G
 |get z=>exact G
 |compile z b=>
  rw[u6];by_cases h:s.isOpen=false\/dr z=false\/1024<b.length
  ·rw[ai h];exact G
  ·rw[ah h];have hz:dr z=true:=by
    cases e:dr z with
    |true=>rfl
    |false=>exact absurd (.inr (.inl e)) h
   have T5:=(d_ z).mp hz;cases hr:Sf84.read b with
   |error p=>exact G
   |ok t=>
    dsimp only;cases hf:Sf84.fault t.compiled with
    |some p=>exact G
    |none=>exact G.set (by omega) (λc hc=>by cases hc;exact hf) λ_=>rfl
 |program z=>exact G
 |load z l=>
  rw[Eg];by_cases h:s.isOpen=false\/dr z=false
  ·rw[ai h];exact G
  ·rw[ah h];have hz:dr z=true:=by
    cases e:dr z with
    |true=>rfl
    |false=>exact absurd (.inr e) h
   have T5:=(d_ z).mp hz;cases hr:Sf84.pairs l with
   |none=>exact G
   |some c=>
    dsimp only;cases hf:Sf84.fault c with
    |some p=>exact G
    |none=>exact G.set (by omega) (λc hc=>by cases hc;exact hf) λ_=>rfl
 |clear z=>
  rw[A5];by_cases h:dr z=false
  ·rw[ai h];exact G
  ·rw[ah h];by_cases h2:(s.program z.toNat).isNone=true
   ·rw[ai h2];exact G
   ·rw[ah h2];by_cases h3:s.gate=some z.toNat
    ·rw[ai h3];exact G
    ·rw[ah h3];have hz:dr z=true:=by
      cases e:dr z with
      |true=>rfl
      |false=>exact absurd e h
     have T5:=(d_ z).mp hz;exact G.set (by omega) (λc hc=>by cases hc) λhg=>absurd hg h3
 |gate z=>
  show Good (if s.isOpen=false\/z< -1\/15<z then(s,Sf84.says (-1))else if z= -1 then({s with gate:=none},Sf84.says 0)else if(s.program z.toNat).isNone=true then(s,Sf84.says (-2))else({s with gate:=some z.toNat},Sf84.says 0)).1;by_cases h:s.isOpen=false\/z< -1\/15<z
  ·rw[ai h];exact G
  ·rw[ah h];by_cases h1:z= -1
   ·rw[ai h1];exact⟨G.pl,G.pf,λk hk=>(by cases hk),G.ring,G.wt,G.next,G.rm⟩
   ·rw[ah h1];by_cases h2:(s.program z.toNat).isNone=true
    ·rw[ai h2];exact G
    ·rw[ah h2];refine⟨G.pl,G.pf,λk hk=>?_,G.ring,G.wt,G.next,G.rm⟩;have e:z.toNat=k:=aO hk;rw[<-e];refine⟨?_,?_⟩
     ·have:¬15<z:=λq=>h (.inr (.inr q))
      omega
     ·show(s.program z.toNat).isSome=true;cases hp:s.program z.toNat with
      |none=>rw[hp]at h2;exact absurd rfl h2
      |some c=>rfl
 |fits z b=>exact G
 |find z f m=>exact G
 |total z=>exact G
 |dump z=>exact G
 |save=>exact G
 |restore b=>
  rw[uZ G];by_cases h:s.isOpen=false
  ·rw[ai h];exact G
  ·rw[ah h];unfold LZ;cases hu:mq b with
   |none=>exact G
   |some l=>
    have hr:∀k∈l,k.way<=1/\k.bytes.length<=1518:=by
     unfold mq at hu;by_cases hm:b.take 4≠Sf84.MAGIC
     ·rw[ai hm]at hu;cases hu
     ·rw[ah hm]at hu;exact(ib _ _ _ _ hu).2.1
    have hn:∀(l:List Sf84.Kept) (n:Nat),n<=V0 n l:=by
     intro l
     induction l with
     |nil=>intro n;exact aM _
     |cons k l ih=>intro n;exact a8 (Nat.le_max_left _ _) (ih (max n (k.id+1)))
    refine⟨G.pl,G.pf,G.gt,λk hk=>?_,a8 (rG _ _) G.rm,a8 G.next (hn _ _),G.rm⟩;obtain⟨k0,h0,rfl⟩:=List.mem_map.mp (oW _ _ k hk);obtain⟨h1,h2⟩:=hr k0 h0;refine⟨h1,?_⟩;show(k0.bytes.take s.snap).length<=1518;rw[bE];omega
theorem Uy{l:List Int}(h:∀z∈l,0<=z/\z<=255):l.map V.int=bV (Sf84Neutral.bs l):=by
 unfold bV Sf84Neutral.bs;rw[List.map_map];apply List.map_congr_left;intro z hz;obtain⟨h1,h2⟩:=h z hz;show V.int z=V.int (((UInt8.ofNat z.toNat).toNat:Nat):Int);rw[ofNat_lt (by omega)]
 congr 1
 omega
theorem GD(l:List Int):(Sf84Neutral.bs l).length=l.length:=by unfold Sf84Neutral.bs;rw[aH]
theorem V5{l:List Int}(h:∀z∈l,0<=z):((l.map Int.toNat).map λ(n:Nat)=>(n:Int))=l:=by
 rw[List.map_map];have:l.map ((λ(n:Nat)=>(n:Int))∘Int.toNat)=l.map id:=by
  apply List.map_congr_left;intro z hz;have:=h z hz;show((z.toNat:Nat):Int)=z;omega
 rw[this,List.map_id]
theorem j7{lo:Int}{a:Nat}{r:List Int}(h:PyInside.lists [(lo,hi,a,m)] [r]=true):(∀z∈r,lo<=z/\z<=hi)/\r.length<=m:=by
 have h':(decide (a<=r.length)&&decide (r.length<=m)&&r.all (PyInside.within lo hi)&&true)=true:=h;rw[bj,bj,bj,aI,aI,Eu]at h';refine⟨λz hz=>?_,h'.1.1.2⟩;have:=h'.1.2 z hz;unfold PyInside.within at this;rw[bj,aI,aI]at this;exact this
theorem FW{lo x:Int}{xs:List Int}(h:PyInside.each ((lo,hi)::b) (x::xs)=true):lo<=x/\x<=hi:=by
 have h':(PyInside.within lo hi x&&PyInside.each b xs)=true:=h;rw[bj]at h';have:=h'.1;unfold PyInside.within at this;rw[bj,aI,aI]at this;exact this
inductive b4(C CF:Addr)(n:Nat)(p:Int)(cl:List Int->List Int->List (List Int))(vs:List V)(H:Hp)(Q:VK)(_E:XK):Prop
 |mk (B:Hp) (c na ra:Addr) (s:Sf84.S) (xs row:List Int):vs=[.ref c,.ref na,.ref ra]->cy C CF B H c s->Good s->B na=some (.lst (xs.map V.int))->B ra=some (.lst (row.map V.int))->xs.length=n->PyInside.call PySf84.bound (cl xs row)=true->(Sf84Neutral.step s (cl xs row)).2.length<=1000000->(∀(H':Hp) (l:Addr),cy C CF B H' c (Sf84Neutral.step s (cl xs row)).1->B l=none->H' l=some (.lst ((Sf84Neutral.step s (cl xs row)).2.map V.int))->Q (.ref l) H')->b4 C CF n p cl vs H Q _E
def Bd(p:Int)(xs row:List Int):List (List Int):=[p::xs]
def OQ(p:Int)(xs row:List Int):List (List Int):=[p::xs,row]
section
variable {C CF:Addr}
theorem Ao(F:bU K "answer_open" "answer_open" lq f fd)(T:aX K mg C)(M:bh aV P w K mg C "begin" 2 (EN C CF)):aP P w K mg base aV 3 f fd ["capture","numbers","row"] (b4 C CF 2 1 (Bd 1)):=by
 refine F.ok zG (λvs H Q E h=>?_) (λbG A outer s H vs Q E hr h=>?_)
 ·obtain⟨B,c,na,ra,s,xs,row,rfl,_⟩:=h;rfl
 ·obtain⟨B,c,na,ra,s,xs,row,rfl,X,G,hn,j8,rn,vw,hlen,k⟩:=h;obtain⟨dx,fa,sa,as,iA,XX⟩:=id X
  match xs,rn with
  |[x0,x1],_=>
  refine⟨_,ag (aq (dj M T.cl (pv 0) hr aE (aa (bu bq (pv 1) ay (λ_ _=>rfl)) (aa (bu bq (pv 1) ay (λ_ _=>rfl)) aj)))),?_⟩;exact⟨_,rfl,c,dx,_,rfl,XX.ob,cn _ _ _ (by decide +kernel),_,rfl,na,_,0,V.int x0,rfl,rfl,bp.of (X.sm _ _ hn),rfl,_,rfl,na,_,1,V.int x1,rfl,rfl,bp.of (X.sm _ _ hn),rfl,B,c,s,x0,x1,rfl,X,k⟩
theorem Ci(F:bU K "answer_add" "answer_add" m5 f fd)(T:aX K mg C)(M:bh aV P w K mg C "add_frame" 5 (LV C CF)):aP P w K mg base aV 6 f fd ["capture","numbers","row"] (b4 C CF 2 2 (OQ 2)):=by
 refine F.ok BO (λvs H Q E h=>?_) (λbG A outer s H vs Q E hr h=>?_)
 ·obtain⟨B,c,na,ra,s,xs,row,rfl,_⟩:=h;rfl
 ·obtain⟨B,c,na,ra,s,xs,row,rfl,X,G,hn,j8,rn,vw,hlen,k⟩:=h;obtain⟨dx,fa,sa,as,iA,XX⟩:=id X
  match xs,rn with
  |[x0,x1],_=>
  refine⟨_,ag (aq (dj M T.cl (pv 0) hr aE (aa (bu bq (pv 1) ay (λ_ _=>rfl)) (aa (bu bq (pv 1) ay (λ_ _=>rfl)) (aa (pv 2) aj))))),?_⟩;have sJ:(PyInside.each [(0,18446744073709551615),(-2147483648,2147483647)] [x0,x1]&&PyInside.lists [(0,255,0,1600)] [row])=true:=vw;rw[bj]at sJ;have h0:=(FW sJ.1).1;obtain⟨hb,hl⟩:=j7 sJ.2;rw[Uy hb]at j8;exact⟨_,rfl,c,dx,_,rfl,XX.ob,cn _ _ _ (by decide +kernel),_,rfl,na,_,0,V.int x0,rfl,rfl,bp.of (X.sm _ _ hn),rfl,_,rfl,na,_,1,V.int x1,rfl,rfl,bp.of (X.sm _ _ hn),rfl,_,rfl,B,c,ra,s,x0.toNat,x1,Sf84Neutral.bs row,by show _=[V.ref c,V.int ((x0.toNat:Nat):Int),V.int x1,V.ref ra];rw[Int.toNat_of_nonneg h0];rfl,X,G,j8,by rw[GD];exact hl,k⟩
theorem vZ(F:bU K "answer_counts" "answer_counts" jj f fd)(T:aX K mg C)(M:bh aV P w K mg C "tell_counts" 1 (tY C CF)):aP P w K mg base aV 2 f fd ["capture","numbers","row"] (b4 C CF 0 3 (Bd 3)):=by
 refine F.ok vD (λvs H Q E h=>?_) (λbG A outer s H vs Q E hr h=>?_)
 ·obtain⟨B,c,na,ra,s,xs,row,rfl,_⟩:=h;rfl
 ·obtain⟨B,c,na,ra,s,xs,row,rfl,X,G,hn,j8,rn,vw,hlen,k⟩:=h;obtain⟨dx,fa,sa,as,iA,XX⟩:=id X
  match xs,rn with
  |[],_=>
  refine⟨_,ag (aq (bT M T.cl (pv 0) hr aE)),?_⟩;exact⟨_,rfl,c,dx,_,rfl,XX.ob,cn _ _ _ (by decide +kernel),B,c,s,rfl,X,k⟩
theorem Cg(F:bU K "answer_get" "answer_get" mX f fd)(T:aX K mg C)(M:bh aV P w K mg C "tell_frame" 2 (LS C CF)):aP P w K mg base aV 3 f fd ["capture","numbers","row"] (b4 C CF 1 4 (Bd 4)):=by
 refine F.ok BN (λvs H Q E h=>?_) (λbG A outer s H vs Q E hr h=>?_)
 ·obtain⟨B,c,na,ra,s,xs,row,rfl,_⟩:=h;rfl
 ·obtain⟨B,c,na,ra,s,xs,row,rfl,X,G,hn,j8,rn,vw,hlen,k⟩:=h;obtain⟨dx,fa,sa,as,iA,XX⟩:=id X
  match xs,rn with
  |[x0],_=>
  refine⟨_,ag (aq (dj M T.cl (pv 0) hr aE (aa (bu bq (pv 1) ay (λ_ _=>rfl)) aj))),?_⟩;exact⟨_,rfl,c,dx,_,rfl,XX.ob,cn _ _ _ (by decide +kernel),_,rfl,na,_,0,V.int x0,rfl,rfl,bp.of (X.sm _ _ hn),rfl,B,c,s,x0,rfl,X,G,k⟩
theorem uG(F:bU K "answer_compile" "answer_compile" iM f fd)(T:aX K mg C)(M:bh aV P w K mg C "compile_text" 174 (qz C CF)):aP P w K mg base aV 175 f fd ["capture","numbers","row"] (b4 C CF 1 5 (OQ 5)):=by
 refine F.ok uj (λvs H Q E h=>?_) (λbG A outer s H vs Q E hr h=>?_)
 ·obtain⟨B,c,na,ra,s,xs,row,rfl,_⟩:=h;rfl
 ·obtain⟨B,c,na,ra,s,xs,row,rfl,X,G,hn,j8,rn,vw,hlen,k⟩:=h;obtain⟨dx,fa,sa,as,iA,XX⟩:=id X
  match xs,rn with
  |[x0],_=>
  refine⟨_,ag (aq (dj M T.cl (pv 0) hr aE (aa (bu bq (pv 1) ay (λ_ _=>rfl)) (aa (pv 2) aj)))),?_⟩;have sJ:(PyInside.each [(-2147483648,2147483647)] [x0]&&PyInside.lists [(0,255,0,1100)] [row])=true:=vw;rw[bj]at sJ;obtain⟨hb,hl⟩:=j7 sJ.2;rw[Uy hb]at j8;exact⟨_,rfl,c,dx,_,rfl,XX.ob,cn _ _ _ (by decide +kernel),_,rfl,na,_,0,V.int x0,rfl,rfl,bp.of (X.sm _ _ hn),rfl,_,rfl,B,c,ra,s,x0,Sf84Neutral.bs row,rfl,X,G,j8,by rw[GD];exact hl,k⟩
theorem uF(F:bU K "answer_program" "answer_program" iL f fd)(T:aX K mg C)(M:bh aV P w K mg C "tell_program" 3 (qv C CF)):aP P w K mg base aV 4 f fd ["capture","numbers","row"] (b4 C CF 1 6 (Bd 6)):=by
 refine F.ok ui (λvs H Q E h=>?_) (λbG A outer s H vs Q E hr h=>?_)
 ·obtain⟨B,c,na,ra,s,xs,row,rfl,_⟩:=h;rfl
 ·obtain⟨B,c,na,ra,s,xs,row,rfl,X,G,hn,j8,rn,vw,hlen,k⟩:=h;obtain⟨dx,fa,sa,as,iA,XX⟩:=id X
  match xs,rn with
  |[x0],_=>
  refine⟨_,ag (aq (dj M T.cl (pv 0) hr aE (aa (bu bq (pv 1) ay (λ_ _=>rfl)) aj))),?_⟩;exact⟨_,rfl,c,dx,_,rfl,XX.ob,cn _ _ _ (by decide +kernel),_,rfl,na,_,0,V.int x0,rfl,rfl,bp.of (X.sm _ _ hn),rfl,B,c,s,x0,rfl,X,G,k⟩
theorem Ap(F:bU K "answer_load" "answer_load" lx f fd)(T:aX K mg C)(M:bh aV P w K mg C "load_program" 3 (EO C CF)):aP P w K mg base aV 4 f fd ["capture","numbers","row"] (b4 C CF 1 7 (OQ 7)):=by
 refine F.ok zH (λvs H Q E h=>?_) (λbG A outer s H vs Q E hr h=>?_)
 ·obtain⟨B,c,na,ra,s,xs,row,rfl,_⟩:=h;rfl
 ·obtain⟨B,c,na,ra,s,xs,row,rfl,X,G,hn,j8,rn,vw,hlen,k⟩:=h;obtain⟨dx,fa,sa,as,iA,XX⟩:=id X
  match xs,rn with
  |[x0],_=>
  refine⟨_,ag (aq (dj M T.cl (pv 0) hr aE (aa (bu bq (pv 1) ay (λ_ _=>rfl)) (aa (pv 2) aj)))),?_⟩;have sJ:(PyInside.each [(-2147483648,2147483647)] [x0]&&PyInside.lists [(0,18446744073709551615,0,600)] [row])=true:=vw;rw[bj]at sJ;obtain⟨hb,hl⟩:=j7 sJ.2;have er:=V5 λz hz=>(hb z hz).1
  have Y8:B ra=some (.lst ((row.map Int.toNat).map vN)):=by rw[j8,<-jK,er]
  exact⟨_,rfl,c,dx,_,rfl,XX.ob,cn _ _ _ (by decide +kernel),_,rfl,na,_,0,V.int x0,rfl,rfl,bp.of (X.sm _ _ hn),rfl,_,rfl,B,c,ra,s,x0,row.map Int.toNat,rfl,X,G,Y8,by rw[aH];exact hl,by rw[er];exact k⟩
theorem yi(F:bU K "answer_clear" "answer_clear" jW f fd)(T:aX K mg C)(M:bh aV P w K mg C "clear_slot" 3 (yI C CF)):aP P w K mg base aV 4 f fd ["capture","numbers","row"] (b4 C CF 1 8 (Bd 8)):=by
 refine F.ok xY (λvs H Q E h=>?_) (λbG A outer s H vs Q E hr h=>?_)
 ·obtain⟨B,c,na,ra,s,xs,row,rfl,_⟩:=h;rfl
 ·obtain⟨B,c,na,ra,s,xs,row,rfl,X,G,hn,j8,rn,vw,hlen,k⟩:=h;obtain⟨dx,fa,sa,as,iA,XX⟩:=id X
  match xs,rn with
  |[x0],_=>
  refine⟨_,ag (aq (dj M T.cl (pv 0) hr aE (aa (bu bq (pv 1) ay (λ_ _=>rfl)) aj))),?_⟩;exact⟨_,rfl,c,dx,_,rfl,XX.ob,cn _ _ _ (by decide +kernel),_,rfl,na,_,0,V.int x0,rfl,rfl,bp.of (X.sm _ _ hn),rfl,B,c,s,x0,rfl,X,G,k⟩
theorem Aq(F:bU K "answer_gate" "answer_gate" ly f fd)(T:aX K mg C)(M:bh aV P w K mg C "set_gate" 3 (EU C CF)):aP P w K mg base aV 4 f fd ["capture","numbers","row"] (b4 C CF 1 9 (Bd 9)):=by
 refine F.ok zI (λvs H Q E h=>?_) (λbG A outer s H vs Q E hr h=>?_)
 ·obtain⟨B,c,na,ra,s,xs,row,rfl,_⟩:=h;rfl
 ·obtain⟨B,c,na,ra,s,xs,row,rfl,X,G,hn,j8,rn,vw,hlen,k⟩:=h;obtain⟨dx,fa,sa,as,iA,XX⟩:=id X
  match xs,rn with
  |[x0],_=>
  refine⟨_,ag (aq (dj M T.cl (pv 0) hr aE (aa (bu bq (pv 1) ay (λ_ _=>rfl)) aj))),?_⟩;exact⟨_,rfl,c,dx,_,rfl,XX.ob,cn _ _ _ (by decide +kernel),_,rfl,na,_,0,V.int x0,rfl,rfl,bp.of (X.sm _ _ hn),rfl,B,c,s,x0,rfl,X,G,k⟩
theorem Ar(F:bU K "answer_fits" "answer_fits" lz f fd)(T:aX K mg C)(M:bh aV P w K mg C "try_frame" 5 (EV C CF)):aP P w K mg base aV 6 f fd ["capture","numbers","row"] (b4 C CF 1 10 (OQ 10)):=by
 refine F.ok zJ (λvs H Q E h=>?_) (λbG A outer s H vs Q E hr h=>?_)
 ·obtain⟨B,c,na,ra,s,xs,row,rfl,_⟩:=h;rfl
 ·obtain⟨B,c,na,ra,s,xs,row,rfl,X,G,hn,j8,rn,vw,hlen,k⟩:=h;obtain⟨dx,fa,sa,as,iA,XX⟩:=id X
  match xs,rn with
  |[x0],_=>
  refine⟨_,ag (aq (dj M T.cl (pv 0) hr aE (aa (bu bq (pv 1) ay (λ_ _=>rfl)) (aa (pv 2) aj)))),?_⟩;have sJ:(PyInside.each [(-2147483648,2147483647)] [x0]&&PyInside.lists [(0,255,0,1600)] [row])=true:=vw;rw[bj]at sJ;obtain⟨hb,hl⟩:=j7 sJ.2;rw[Uy hb]at j8;exact⟨_,rfl,c,dx,_,rfl,XX.ob,cn _ _ _ (by decide +kernel),_,rfl,na,_,0,V.int x0,rfl,rfl,bp.of (X.sm _ _ hn),rfl,_,rfl,B,c,ra,s,x0,Sf84Neutral.bs row,rfl,X,G,j8,by rw[GD];exact hl,k⟩
theorem As(F:bU K "answer_find" "answer_find" lA f fd)(T:aX K mg C)(M:bh aV P w K mg C "find_frames" 6 (EW C CF)):aP P w K mg base aV 7 f fd ["capture","numbers","row"] (b4 C CF 3 11 (Bd 11)):=by
 refine F.ok zK (λvs H Q E h=>?_) (λbG A outer s H vs Q E hr h=>?_)
 ·obtain⟨B,c,na,ra,s,xs,row,rfl,_⟩:=h;rfl
 ·obtain⟨B,c,na,ra,s,xs,row,rfl,X,G,hn,j8,rn,vw,hlen,k⟩:=h;obtain⟨dx,fa,sa,as,iA,XX⟩:=id X
  match xs,rn with
  |[x0,x1,x2],_=>
  refine⟨_,ag (aq (dj M T.cl (pv 0) hr aE (aa (bu bq (pv 1) ay (λ_ _=>rfl)) (aa (bu bq (pv 1) ay (λ_ _=>rfl)) (aa (bu bq (pv 1) ay (λ_ _=>rfl)) aj))))),?_⟩;exact⟨_,rfl,c,dx,_,rfl,XX.ob,cn _ _ _ (by decide +kernel),_,rfl,na,_,0,V.int x0,rfl,rfl,bp.of (X.sm _ _ hn),rfl,_,rfl,na,_,1,V.int x1,rfl,rfl,bp.of (X.sm _ _ hn),rfl,_,rfl,na,_,2,V.int x2,rfl,rfl,bp.of (X.sm _ _ hn),rfl,B,c,s,x0,x1,x2,rfl,X,G,k⟩
theorem yh(F:bU K "answer_total" "answer_total" jV f fd)(T:aX K mg C)(M:bh aV P w K mg C "tell_total" 6 (yA C CF)):aP P w K mg base aV 7 f fd ["capture","numbers","row"] (b4 C CF 1 12 (Bd 12)):=by
 refine F.ok xX (λvs H Q E h=>?_) (λbG A outer s H vs Q E hr h=>?_)
 ·obtain⟨B,c,na,ra,s,xs,row,rfl,_⟩:=h;rfl
 ·obtain⟨B,c,na,ra,s,xs,row,rfl,X,G,hn,j8,rn,vw,hlen,k⟩:=h;obtain⟨dx,fa,sa,as,iA,XX⟩:=id X
  match xs,rn with
  |[x0],_=>
  refine⟨_,ag (aq (dj M T.cl (pv 0) hr aE (aa (bu bq (pv 1) ay (λ_ _=>rfl)) aj))),?_⟩;exact⟨_,rfl,c,dx,_,rfl,XX.ob,cn _ _ _ (by decide +kernel),_,rfl,na,_,0,V.int x0,rfl,rfl,bp.of (X.sm _ _ hn),rfl,B,c,s,x0,rfl,X,G,k⟩
theorem Au(F:bU K "answer_dump" "answer_dump" lB f fd)(T:aX K mg C)(M:bh aV P w K mg C "tell_dump" 5 (yH C CF)):aP P w K mg base aV 6 f fd ["capture","numbers","row"] (b4 C CF 1 13 (Bd 13)):=by
 refine F.ok zL (λvs H Q E h=>?_) (λbG A outer s H vs Q E hr h=>?_)
 ·obtain⟨B,c,na,ra,s,xs,row,rfl,_⟩:=h;rfl
 ·obtain⟨B,c,na,ra,s,xs,row,rfl,X,G,hn,j8,rn,vw,hlen,k⟩:=h;obtain⟨dx,fa,sa,as,iA,XX⟩:=id X
  match xs,rn with
  |[x0],_=>
  refine⟨_,ag (aq (dj M T.cl (pv 0) hr aE (aa (bu bq (pv 1) ay (λ_ _=>rfl)) aj))),?_⟩;exact⟨_,rfl,c,dx,_,rfl,XX.ob,cn _ _ _ (by decide +kernel),_,rfl,na,_,0,V.int x0,rfl,rfl,bp.of (X.sm _ _ hn),rfl,B,c,s,x0,rfl,X,G,k⟩
theorem An(F:bU K "answer_save" "answer_save" lp f fd)(T:aX K mg C)(M:bh aV P w K mg C "tell_file" 4 (EL C CF)):aP P w K mg base aV 5 f fd ["capture","numbers","row"] (b4 C CF 0 14 (Bd 14)):=by
 refine F.ok zF (λvs H Q E h=>?_) (λbG A outer s H vs Q E hr h=>?_)
 ·obtain⟨B,c,na,ra,s,xs,row,rfl,_⟩:=h;rfl
 ·obtain⟨B,c,na,ra,s,xs,row,rfl,X,G,hn,j8,rn,vw,hlen,k⟩:=h;obtain⟨dx,fa,sa,as,iA,XX⟩:=id X
  match xs,rn with
  |[],_=>
  refine⟨_,ag (aq (bT M T.cl (pv 0) hr aE)),?_⟩;have acv:(Sf84Neutral.listOf (Sf84.does s .save).2).length<=1000000:=hlen;have hsv:s.saved.length<=1000000:=by
   have e:(Sf84Neutral.listOf (Sf84.does s .save).2).length=s.saved.length+1:=by
    show((nums s.saved).map λ(n:Nat)=>(n:Int)).length+1=_;rw[aH,gk]
   omega
  exact⟨_,rfl,c,dx,_,rfl,XX.ob,cn _ _ _ (by decide +kernel),B,c,s,rfl,X,G,hsv,k⟩
theorem uE(F:bU K "answer_restore" "answer_restore" iK f fd)(T:aX K mg C)(M:bh aV P w K mg C "restore_file" 5 (qu C CF)):aP P w K mg base aV 6 f fd ["capture","numbers","row"] (b4 C CF 0 15 (OQ 15)):=by
 refine F.ok uh (λvs H Q E h=>?_) (λbG A outer s H vs Q E hr h=>?_)
 ·obtain⟨B,c,na,ra,s,xs,row,rfl,_⟩:=h;rfl
 ·obtain⟨B,c,na,ra,s,xs,row,rfl,X,G,hn,j8,rn,vw,hlen,k⟩:=h;obtain⟨dx,fa,sa,as,iA,XX⟩:=id X
  match xs,rn with
  |[],_=>
  refine⟨_,ag (aq (dj M T.cl (pv 0) hr aE (aa (pv 2) aj))),?_⟩;have sJ:(PyInside.each [] []&&PyInside.lists [(0,255,0,15000)] [row])=true:=vw;rw[bj]at sJ;obtain⟨hb,hl⟩:=j7 sJ.2;rw[Uy hb]at j8;exact⟨_,rfl,c,dx,_,rfl,XX.ob,cn _ _ _ (by decide +kernel),_,rfl,B,c,ra,s,Sf84Neutral.bs row,rfl,X,G,j8,by rw[GD];exact hl,k⟩
end
theorem zds{a k:Int}{α}{t:a=k->α}{e:¬a=k->α}{b:α}(h1:∀h,t h=b)(h2:∀h,e h=b):dite (a=k) t e=b:=by
 by_cases h:a=k
 ·rw[dif_pos h];exact h1 h
 ·rw[dif_neg h];exact h2 h
theorem PD(c:List (List Int)):PySf84.whole c=c:=by
 rcases c with _|⟨_|⟨a,l⟩,r⟩
 ·rfl
 ·rfl
 unfold PySf84.whole PySf84.whole.match_1
 iterate 15 (refine zds (λh=>by subst h;rcases l with _|⟨_,_|⟨_,_|⟨_,_|⟨_,_⟩⟩⟩⟩<;>rcases r with _|⟨_,_|_⟩<;>rfl) λ_=>?_)
 rfl
theorem MU(cs:List (List (List Int))):cs.map PySf84.whole=cs:=by
 have:cs.map PySf84.whole=cs.map id:=List.map_congr_left λc _=>PD c
 rw[this,List.map_id]
def clK(k:Nat)(p:Int):List Int->List Int->List (List Int):=if k=1 then OQ p else Bd p
def Xc:List (Int×Nat×Nat):=[(1,2,0),(2,2,1),(3,0,0),(4,1,0),(5,1,1),(6,1,0),(7,1,1),(8,1,0),(9,1,0),(10,1,1),(11,3,0),(12,1,0),(13,1,0),(14,0,0),(15,0,1)]
theorem ifm{p c:Int}{a x:Nat×Nat}(h:(if p=c then some a else b)=some x)(h1:(c,a)∈Xc)(h2:b=some x->(p,x)∈Xc):(p,x)∈Xc:=by
 by_cases q:p=c
 ·rw[ai q]at h;cases h;rw[q];exact h1
 ·rw[ah q]at h;exact h2 h
theorem DB{p:Int}(h:PySf84.shape p=some (n,k)):(p,n,k)∈Xc:=by
 unfold PySf84.shape at h
 iterate 15 (refine ifm h (by decide) λh=>?_)
 cases h
theorem S7{p:Int}(h:PySf84.shape p=some (n,k)):k<=1/\n<=3:=by
 have:=DB h;have all:∀x∈Xc,x.2.2<=1/\x.2.1<=3:=by decide
 exact all _ this
theorem Lq{f:Nat}{p:Int}{r:List Int}(h:PyFlat.calls PySf84.shape f (p::r)=some cs):
  ∃f' n k yO,f=f'+1/\PySf84.shape p=some (n,k)/\n<=r.length/\
   ((k=0/\cs=Bd p (r.take n) []::yO/\PyFlat.calls PySf84.shape f' (r.drop n)=some yO)\/
    (k=1/\∃m:Nat,(r.drop n)[0]? =some (m:Int)/\n+1+m<=r.length/\cs=OQ p (r.take n) ((r.drop (n+1)).take m)::yO/\PyFlat.calls PySf84.shape f' (r.drop (n+1+m))=some yO)):=by
 cases f with
 |zero=>cases h
 |succ f=>
  have h':(match PyFlat.call PySf84.shape (p::r)with
   |none=>none
   |some (c,t)=>match PyFlat.calls PySf84.shape f t with
    |none=>none
    |some cs=>some (c::cs))=some cs:=h
  cases hc:PyFlat.call PySf84.shape (p::r)with
  |none=>rw[hc]at h';cases h'
  |some ct=>
   obtain⟨c,t⟩:=ct;rw[hc]at h';dsimp only at h';cases hr:PyFlat.calls PySf84.shape f t with
   |none=>rw[hr]at h';cases h'
   |some yO=>
    rw[hr]at h';have ecs:c::yO=cs:=aO h';have xG:(match PySf84.shape p with
     |none=>none
     |some (n,k)=>if r.length<n then none else match PyFlat.rows k (r.drop n)with
      |none=>none
      |some (xs,t)=>some ((p::r.take n)::xs,t))=some (c,t):=hc
    cases hs:PySf84.shape p with
    |none=>rw[hs]at xG;cases xG
    |some nk=>
     obtain⟨n,k⟩:=nk;rw[hs]at xG;dsimp only at xG;have hk:=(S7 hs).1;by_cases hl:r.length<n
     ·rw[ai hl]at xG;cases xG
     ·rw[ah hl]at xG;refine⟨f,n,k,yO,rfl,rfl,by omega,?_⟩
      match k,hk,xG with
      |0,_,xG=>
       have e:some ((p::r.take n)::[],r.drop n)=some (c,t):=xG;cases e;exact .inl ⟨rfl,ecs.symm,hr⟩
      |1,_,xG=>
       have Ue:(match(match PyFlat.row (r.drop n)with
        |none=>none
        |some (x,s)=>some ([x],s):Option (List (List Int)×List Int))with
        |none=>none
        |some (xs,t)=>some ((p::r.take n)::xs,t))=some (c,t):=by
        rw[<-xG];show _=(match(match PyFlat.row (r.drop n)with
         |none=>none
         |some (x,s)=>match PyFlat.rows 0 s with
          |none=>none
          |some (xs,t)=>some (x::xs,t):Option (List (List Int)×List Int))with
         |none=>none
         |some (xs,t)=>some ((p::r.take n)::xs,t))
        cases PyFlat.row (r.drop n)with
        |none=>rfl
        |some xs=>rfl
       cases hd:r.drop n with
       |nil=>rw[hd]at Ue;cases Ue
       |cons m q=>
        rw[hd]at Ue;have e1:PyFlat.row (m::q)=if 0<=m/\m.toNat<=q.length then some (q.take m.toNat,q.drop m.toNat)else none:=rfl
        rw[e1]at Ue;by_cases hm:0<=m/\m.toNat<=q.length
        ·rw[ai hm]at Ue;have e2:some ([p::r.take n,q.take m.toNat],q.drop m.toNat)=some (c,t):=Ue;have hq:q=r.drop (n+1):=by
          have:=congrArg List.tail hd;rw[List.tail_drop]at this;exact this.symm
         have hlen:r.length - n=q.length+1:=by
          have:=congrArg List.length hd;rw[a_]at this;exact this
         refine .inr ⟨rfl,m.toNat,?_,by omega,?_,?_⟩
         ·show some m=_;rw[Int.toNat_of_nonneg hm.1]
         ·rw[<-ecs,<-hq];have:=congrArg Prod.fst (aO e2);rw[<-show _=c from this];rfl
         ·have:=congrArg Prod.snd (aO e2);rw[<-List.drop_drop,<-hq,show q.drop m.toNat=t from this];exact hr
        ·rw[ah hm]at Ue;cases Ue
theorem Ec{s:Sf84.S}(G:Good s)(c:List (List Int)):Good (Sf84Neutral.step s c).1:=by
 unfold Sf84Neutral.step;cases Sf84Neutral.callOf c with
 |none=>exact G
 |some q=>exact Og G q
theorem VN{X:Cx}{p:Pos}(M:Makes X.prog X.w X.K X.mg C k sp)(hm:X.mg x=some (.ref C))(hr:dR (k+1) X.A)
  (hg:Gl X x:=by rfl) (yn:(x==("__debug__":Str))=false:=by decide):PE X (.Call (.Name x p) [] [] pos) (zg C sp [] E0 gj):=by
 obtain⟨fI,fd,ps,mk,F,b⟩:=M.ex;exact QE mk (F X.base) hr hg hm b .nil aE yn
theorem Qg{l:List Int}(h:bp K H a (l.map V.int)):∃B:Hp,a9 B H/\(∀H',a9 B H'->bp K H' a (l.map V.int))/\∀x o,B x=some o->Er o:=by
 rcases h with h|h
 ·refine⟨λx=>if x=a then H a else none,λb u e=>?_,λH' s=>?_,λx o e=>?_⟩
  ·by_cases q:b=a
   ·rw[q];simpa [q]using e
   ·simp[q]at e
  ·have e:∀u,H a=some u->H' a=some u:=λu hu=>s a u (by simpa using hu)
   rcases h with h|⟨o,h⟩
   ·exact .inl (.inl (e _ h))
   ·exact .inl (.inr ⟨o,e _ h⟩)
  ·by_cases q:x=a
   ·have e':H a=some o:=by simpa [q]using e
    rcases h with h|⟨o2,h⟩
    ·rw[h]at e';cases e';exact Er.ints l
    ·rw[h]at e';cases e';exact⟨λys z=>(by cases z),λa ys z=>(by cases z)⟩
   ·simp[q]at e
 ·exact⟨λ_=>none,λb u e=>(by cases e),λH' _=>.inr h,λx o e=>by cases e⟩
theorem eZ{x:Addr}{o:HO}(h:upd B y o x=none):x≠y/\B x=none:=by
 by_cases q:x=y
 ·rw[q,af]at h;cases h
 ·rw[ao q]at h;exact⟨q,h⟩
section
variable {C CF:Addr}
structure Vg(P:Program)(w:World)(K:Frag)(mg:Str->Option Value)(C CF:Addr)(aC:Addr)(bD:List (Key×V)):Prop where
 nm:mg "CALLS"=some (.ref aC)
 dic:jg K w aC bD
 row:∀p n k,PySf84.shape p=some (n,k)->∃t f,jh bD (Sum.inl p)=some (.ref t)/\KT K t [vN n,vN k,.ref f]/\Calls aV P w K mg f 175 (b4 C CF n p (clK k p))
inductive iE(K:Frag)(vs:List V)(H:Hp)(Q:VK)(_E:XK):Prop
 |mk (a:Addr) (l:List Int):vs=[.ref a]->bp K H a (l.map V.int)->PySf84.answers_asked l=true->(∀(H':Hp) (p:Addr),H' p=some (.lst ((PySf84.answers l).map V.int))->Q (.ref p) H')->iE K vs H Q _E
theorem Kn(F:bU K "answers" "answers" lX f fd)(T:aX K mg C)(M:Makes P w K mg C 2 (yF C))(D:Vg P w K mg C CF aC bD)(hlen:mg "len"=none):aP P w K mg base aV 176 f fd ["calls"] (iE K):=by
 refine F.ok zE (λvs H Q E h=>?_) (λbG A outer s H vs Q E hr h=>?_)
 ·obtain⟨a,l,rfl,_⟩:=h;rfl
 ·obtain⟨a,l,rfl,hS,WG,k⟩:=h;have nd:=zE.nd;obtain⟨B0,sB,sq,bi⟩:=Qg hS;refine⟨_,ae (aB (i:=1) nd rfl (Or.inl rfl) (VN M T.nm (hr.mono (by decide))))
   (ae (aB (i:=2) nd rfl (Or.inl rfl) (aY aj))
   (ae (aB (i:=3) nd rfl (Or.inl rfl) ay)
   (ae (fi PassesOwn.never (aF oz (pv 3) (dX hlen (pv 0)) (aK _))
    (ae (aB (i:=4) nd rfl (Or.inl rfl) (yK D.dic (BV D.nm) (bu bq (pv 0) (pv 3) (λ_ _=>rfl))))
    (ae (lG (i:=3) nd rfl (Or.inl rfl) ay lJ)
    (ae (aB (i:=5) nd rfl (Or.inl rfl) (de fw (pv 0) (bQ (pv 3)) (bQ (bb ck (pv 3) (bu dP (pv 4) ay (λ_ _=>rfl))))))
    (ae (lG (i:=3) nd rfl (Or.inl rfl) (bu dP (pv 4) ay (λ_ _=>rfl)) lJ)
    (ae (aB (i:=6) nd rfl (Or.inl rfl) (aY aj))
    (ae (a7 (aF dg (bu dP (pv 4) ay (λ_ _=>rfl)) ay (aK _))
     (ae (aB (i:=7) nd rfl (Or.inl rfl) (bb ck (pv 3) ay))
     (ae (aB (i:=3) nd rfl (Or.inl rfl) (bb ck (pv 7) (bu bq (pv 0) (pv 3) (λ_ _=>rfl))))
     (ag (aB (i:=6) nd rfl (Or.inl rfl) (de fw (pv 0) (bQ (pv 7)) (bQ (pv 3))))))) aJ)
    (ae (aB (i:=8) nd rfl (Or.inl rfl) (z0 (bu dP (pv 4) ay (λ_ _=>rfl)) (aa (pv 1) (aa (pv 5) (aa (pv 6) aj)))))
    (ae (aU (DM (pv 2) (dX hlen (pv 8)))) (ag (aU (pF (pv 2) (pv 8)))))))))))))
   (ag (aq (pv 2)))))),?_⟩
  have AW:(match PyFlat.calls PySf84.shape l.length l with
   |none=>false
   |some raw=> !raw.isEmpty&&PyFlat.atMost 300 raw&&PyInside.calls PySf84.bound raw&&Sf84Neutral.asked (raw.map PySf84.whole)&&PyFlat.short 10000000 (PySf84.answers l))=true:=WG
  have Ur:PySf84.answers l=match(match PyFlat.calls PySf84.shape l.length l with
   |none=>none
   |some cs=>some (cs.map PySf84.whole))with
   |none=>[]
   |some cs=>PyFlat.told (PyFlat.played Sf84Neutral.step Sf84Neutral.start cs):=rfl
  cases U7:PyFlat.calls PySf84.shape l.length l with
  |none=>rw[U7]at AW;cases AW
  |some SQ=>
  rw[U7]at AW Ur;dsimp only at AW Ur;rw[MU]at AW Ur;rw[bj,bj,bj,bj]at AW;obtain⟨⟨⟨⟨_,ab3⟩,qU⟩,Wu⟩,_⟩:=AW;have acw:SQ.length<=300:=cj ab3;have Zn:∀x∈SQ,PyInside.call PySf84.bound x=true:=List.all_eq_true.mp qU;have acu:Sf84Neutral.numbers Sf84Neutral.start SQ<1000000:=by
   unfold Sf84Neutral.asked at Wu;rw[bj,aI]at Wu;exact Wu.2
  rw[Ur]at k;intro c dx hc pS fR;refine⟨c,dx,rfl,af,λH1 fa sa g1 g2 g3 g4 g5 g6 g7=>⟨rfl,?_⟩⟩;have frB:∀x,(upd (upd H dx (.own c)) c (.ins C dx [])) x=none->B0 x=none:=λx e=>sB.free (eZ (eZ e).2).2
  have X1:cy C CF B0 H1 c Sf84.closed:=⟨dx,fa,sa,[],_,Q_ g1 g4 g5 g6 (sB.free hc) (frB _ g2) (frB _ g3) (λb u e=>g7 b u (by rw[ao (au (sB _ _ e) hc),ao (au (sB _ _ e) pS)];exact sB _ _ e) (au (sB _ _ e) hc)) bi⟩;refine⟨bw _,λt ht=>?_⟩;have bt:B0 t=none:=X1.sm.free ht;have X2:=X1.write (Er.ints []) (.inr ht);have sB2:∀(L:List Int) {H':Hp},a9 (upd B0 t (.lst (L.map V.int))) H'->a9 B0 H':=λL H' s b u e=>s b u ((ao (au e bt)).trans e)
  refine eY (λσ H'=>∃(p fu:Nat) (s:Sf84.S) (cs:List (List (List Int))) (L:List Int) (v4 v5 v6 v7 v8:Option V),σ=[some (.ref a),some (.ref c),some (.ref t),some (vN p),v4,v5,v6,v7,v8]/\p<=l.length/\PyFlat.calls PySf84.shape fu (l.drop p)=some cs/\Good s/\cy C CF (upd B0 t (.lst (L.map V.int))) H' c s/\
    (∀x∈cs,PyInside.call PySf84.bound x=true)/\L.length+Sf84Neutral.numbers s cs+cs.length<=1001000/\Sf84Neutral.numbers s cs<=1000000/\
    PyFlat.told (PyFlat.played Sf84Neutral.step Sf84Neutral.start SQ)=L++PyFlat.told (PyFlat.played Sf84Neutral.step s cs))
   (λσ _=>l.length - intAt σ 3) ⟨0,l.length,Sf84.closed,SQ,[],none,none,none,none,none,rfl,bw _,U7,KS,X2,Zn,by show 0+Sf84Neutral.numbers Sf84Neutral.start SQ+SQ.length<=_;omega,by show Sf84Neutral.numbers Sf84Neutral.start SQ<=_;omega,rfl⟩ ?_ ?_
  ·rintro σ H3 ⟨p,fu,s,cs,L,v4,v5,v6,v7,v8,rfl,hp,Xu,G,X3,cM,Oe,hnb,et⟩
   have sq3:=sq H3 (sB2 L X3.sm);refine⟨_,rfl,_,rfl,a,_,rfl,.inl sq3,_,_,rfl,rfl,_,rfl,?_⟩;rw[aH];refine eM (λeP=>?_) λeP=>?_
   rotate_left
   ·
    have Y9:p=l.length:=by
     have:¬(p:Int)<(l.length:Int):=eQ (Bool.eq_false_iff.mpr eP);omega
    rw[Y9,List.drop_length]at Xu;have ecs:cs=[]:=by
     cases fu<;>(cases Xu;rfl)
    subst ecs;refine⟨_,rfl,k H3 t ?_⟩;rw[et];show H3 t=some (.lst ((L++[]).map V.int));rw[gW];exact X3.sm _ _ af
   have Ct:p<l.length:=by
    have:=cj eP;omega
   have ed:l.drop p=l[p]::l.drop (p+1):=eT Ct;rw[ed]at Xu;obtain⟨fu',n,kk,yO,rfl,hsh,hnl,way⟩:=Lq Xu;obtain⟨tt,ff,abL,Zl,U6⟩:=D.row _ _ _ hsh;rw[a_]at hnl;refine⟨_,rfl,_,rfl,a,_,(p:Int),V.int l[p],rfl,rfl,sq3,bW (by rw[bO,bx Ct];rfl),Sum.inl l[p],.ref tt,rfl,rfl,abL,?_⟩;refine⟨_,rfl,_,_,rfl,rfl,?_⟩;refine⟨_,rfl,_,rfl,_,rfl,_,rfl,_,rfl,tt,_,0,vN n,rfl,rfl,Zl.sq,rfl,_,_,rfl,rfl,_,rfl,a,_,rfl,sq3,λna Rt=>?_⟩;have acg:d4 (l.map V.int) (some ((p:Int)+1)) (some ((p:Int)+1+(n:Int)))=((l.drop (p+1)).take n).map V.int:=by
    rw[Ll (p:=p+1) (q:=n) (by omega) (by omega),<-List.map_drop,<-List.map_take]
   rw[acg]at*;have X4:=X3.write (Er.ints ((l.drop (p+1)).take n)) (.inr Rt);have hbt:∀(xs:List V),(upd (upd B0 t (.lst (L.map V.int))) na (.lst xs)) t=some (.lst (L.map V.int)):=λxs=>by
    have:t≠na:=au (X3.sm _ _ af) Rt;rw[ao this,af]
   have rn:((l.drop (p+1)).take n).length=n:=by rw[bE,a_];omega
   generalize hB4:upd (upd B0 t (.lst (L.map V.int))) na (.lst (((l.drop (p+1)).take n).map V.int))=B4 at X4;generalize hH4:upd H3 na (.lst (((l.drop (p+1)).take n).map V.int))=H4 at X4 ⊢;have b4t:B4 t=some (.lst (L.map V.int)):=by rw[<-hB4];exact hbt _
   have b4n:B4 na=some (.lst (((l.drop (p+1)).take n).map V.int)):=by rw[<-hB4];exact af
   have b40:∀x,B4 x=none->B0 x=none/\x≠t:=λx e=>by
    rw[<-hB4]at e;have e2:=(eZ e).2;exact⟨(eZ e2).2,(eZ e2).1⟩
   have b04:a9 B0 B4:=λx u e=>by
    have h1:x≠t:=au e bt;have h2:x≠na:=au (sB2 L X3.sm _ _ e) Rt;rw[<-hB4,ao h2,ao h1];exact e
   refine⟨_,rfl,_,rfl,tt,_,0,vN n,rfl,rfl,Zl.sq,rfl,_,_,rfl,rfl,?_⟩;refine⟨bw _,λra hra=>?_⟩;have X5:=X4.write (Er.ints []) (.inr hra);have n5:∀x u,B4 x=some u->x≠ra:=λx u e=>au (X4.sm _ _ e) hra
   generalize hB5:upd B4 ra (.lst (([]:List Int).map V.int))=B5 at X5;have hH5:upd H4 ra (.lst (([]:List Int).map V.int))=upd H4 ra (.lst []):=rfl;rw[hH5]at X5;generalize upd H4 ra (.lst [])=H5 at X5 ⊢;have b5:∀x u,B4 x=some u->B5 x=some u:=λx u e=>by rw[<-hB5,ao (n5 x u e)];exact e
   have b5r:B5 ra=some (.lst (([]:List Int).map V.int)):=by rw[<-hB5];exact af
   have b50:∀x,B5 x=none->B0 x=none/\x≠t:=λx e=>by rw[<-hB5]at e;exact b40 x (eZ e).2
   refine⟨_,rfl,tt,_,1,vN kk,rfl,rfl,Zl.sq,rfl,rfl,_,rfl,?_⟩;rcases way with⟨rfl,rfl,Rz⟩|⟨rfl,m,hm,hml,rfl,Rz⟩
   ·refine cx (by decide) ?_;rw[List.drop_drop]at Rz;generalize RQ:Bd l[p] ((l.drop (p+1)).take n) []=cl at cM Oe hnb et;have RQ:clK 0 l[p] ((l.drop (p+1)).take n) []=cl:=RQ;refine⟨_,rfl,tt,_,2,.ref ff,rfl,rfl,Zl.sq,rfl,ff,_,rfl,U6.callee hr,_,rfl,_,rfl,_,rfl,?_⟩;refine⟨B5,c,na,ra,s,(l.drop (p+1)).take n,[],rfl,X5,G,b5 _ _ b4n,b5r,rn,?_,?_,λH8 l8 X8 Zi h8=>?_⟩
    ·rw[RQ];exact cM _ bB
    ·rw[RQ];have:Sf84Neutral.numbers s (cl::yO)=(Sf84Neutral.step s cl).2.length+Sf84Neutral.numbers (Sf84Neutral.step s cl).1 yO:=rfl;omega
    rw[RQ]at X8 h8;have enum:Sf84Neutral.numbers s (cl::yO)=(Sf84Neutral.step s cl).2.length+Sf84Neutral.numbers (Sf84Neutral.step s cl).1 yO:=rfl;have lcs:(cl::yO).length=yO.length+1:=rfl;have W9:=b5 _ _ b4t;have t8:H8 t=some (.lst (L.map V.int)):=X8.sm _ _ W9;have nl8:l8≠t:=Ne.symm (au W9 Zi);refine⟨_,rfl,.inl ⟨rfl,_,bp.of t8⟩,_,rfl,l8,_,rfl,.inl (bp.of h8),t,_,_,rfl,rfl,t8,by rw[aH];exact dE (by omega),?_⟩;have good0:=Ec G cl;have ZK:PyFlat.told (PyFlat.played Sf84Neutral.step Sf84Neutral.start SQ)=L++((((Sf84Neutral.step s cl).2.length:Int)::(Sf84Neutral.step s cl).2)++PyFlat.told (PyFlat.played Sf84Neutral.step (Sf84Neutral.step s cl).1 yO)):=et;generalize Sf84Neutral.step s cl=st at X8 h8 enum good0 ZK ⊢;have e9:L.map V.int++[V.int ((st.2.map V.int).length:Int)]=(L++[(st.2.length:Int)]).map V.int:=by
     rw[bH,aH];rfl
    have X9:=X8.write (x:=t) (Er.ints (L++[(st.2.length:Int)])) (.inl (by rw[W9];exact λq=>by cases q));rw[e9];refine⟨_,rfl,.inl ⟨rfl,_,bp.of af⟩,_,rfl,t,l8,_,_,rfl,rfl,af,(ao nl8).trans h8,by rw[aH,aH,ba];exact dH (by show _+1+_<=_;omega),?_⟩;have e10:(L++[(st.2.length:Int)]).map V.int++st.2.map V.int=(L++((st.2.length:Int)::st.2)).map V.int:=by
     rw[<-bH,dF];rfl
    rw[e10];have X10:=X9.write (x:=t) (Er.ints (L++((st.2.length:Int)::st.2))) (.inl (by rw[af];exact λq=>by cases q));have X11:cy C CF (upd B0 t (.lst ((L++((st.2.length:Int)::st.2)).map V.int))) (upd (upd H8 t (.lst ((L++[(st.2.length:Int)]).map V.int))) t (.lst ((L++((st.2.length:Int)::st.2)).map V.int))) c st.1:=by
     refine X10.bse (λx u e=>?_) (λx o e=>?_) λx e _=>?_
     ·by_cases q:x=t
      ·rw[q,af]at e;rw[q,af];exact e
      ·rw[ao q]at e;rw[ao q,ao q];exact X8.sm _ _ (b5 _ _ (b04 _ _ e))
     ·by_cases q:x=t
      ·rw[q,af]at e;cases e;exact Er.ints _
      ·rw[ao q]at e;exact bi x o e
     ·obtain⟨q,e⟩:=eZ (eZ e).2;exact(ao q).trans (b50 x e).1
    refine⟨⟨p+1+n,fu',st.1,yO,L++((st.2.length:Int)::st.2),some (.ref tt),some (.ref na),some (.ref ra),v7,some (.ref l8),?_,by omega,Rz,good0,X11,λx hx=>cM x (aS _ hx),?_,by omega,?_⟩,?_⟩
    ·show [some (V.ref a),some (V.ref c),some (V.ref t),some (V.int ((p:Int)+1+(n:Int))),some (V.ref tt),some (V.ref na),some (V.ref ra),v7,some (V.ref l8)]=_;rw[show(p:Int)+1+(n:Int)=((p+1+n:Nat):Int) by omega]
    ·rw[ba,di];omega
    ·rw[ZK,dF]
    ·show l.length - ((p:Int)+1+(n:Int)).toNat<l.length - ((p:Int)).toNat;omega
   ·refine cu (by decide) ?_;have sq5:=sq H5 (λx u e=>X5.sm _ _ (b5 _ _ (b04 _ _ e)));rw[a_]at hml;rw[List.drop_drop]at hm;have hm':l[p+1+n]? =some (m:Int):=by
     rw[List.getElem?_drop]at hm;exact hm
    refine⟨_,rfl,_,_,rfl,rfl,?_⟩;refine⟨_,rfl,_,rfl,_,rfl,a,_,((p+1+n:Nat):Int),V.int (m:Int),rfl,congrArg V.int (by show(p:Int)+1+(n:Int)=_;omega),sq5,bW (by rw[bO,hm'];rfl),_,_,rfl,rfl,?_⟩;refine⟨_,rfl,_,rfl,_,rfl,_,rfl,_,rfl,a,_,rfl,sq5,λrb hrb=>?_⟩;have Vc:d4 (l.map V.int) (some ((p:Int)+1+(n:Int)+1)) (some ((p:Int)+1+(n:Int)+1+(m:Int)))=(((l.drop (p+1)).drop (n+1)).take m).map V.int:=by
     rw[Ll (p:=p+1+(n+1)) (q:=m) (by omega) (by omega),List.drop_drop,<-List.map_drop,<-List.map_take]
    have X6:=X5.write (Er.ints (((l.drop (p+1)).drop (n+1)).take m)) (.inr hrb);rw[<-Vc]at X6;have n6:∀x u,B5 x=some u->x≠rb:=λx u e=>au (X5.sm _ _ e) hrb
    generalize hB6:upd B5 rb (.lst (d4 (l.map V.int) (some ((p:Int)+1+(n:Int)+1)) (some ((p:Int)+1+(n:Int)+1+(m:Int)))))=B6 at X6;generalize upd H5 rb (.lst (d4 (l.map V.int) (some ((p:Int)+1+(n:Int)+1)) (some ((p:Int)+1+(n:Int)+1+(m:Int)))))=H6 at X6 ⊢;have b6:∀x u,B4 x=some u->B6 x=some u:=λx u e=>by rw[<-hB6,ao (n6 x u (b5 x u e))];exact b5 x u e
    have b6r:B6 rb=some (.lst ((((l.drop (p+1)).drop (n+1)).take m).map V.int)):=by rw[<-hB6,af,Vc]
    have b60:∀x,B6 x=none->B0 x=none/\x≠t:=λx e=>by rw[<-hB6]at e;exact b50 x (eZ e).2
    rw[List.drop_drop]at Rz;generalize RQ:OQ l[p] ((l.drop (p+1)).take n) (((l.drop (p+1)).drop (n+1)).take m)=cl at cM Oe hnb et;have RQ:clK 1 l[p] ((l.drop (p+1)).take n) (((l.drop (p+1)).drop (n+1)).take m)=cl:=RQ;refine⟨_,rfl,tt,_,2,.ref ff,rfl,rfl,Zl.sq,rfl,ff,_,rfl,U6.callee hr,_,rfl,_,rfl,_,rfl,?_⟩;refine⟨B6,c,na,rb,s,(l.drop (p+1)).take n,((l.drop (p+1)).drop (n+1)).take m,rfl,X6,G,b6 _ _ b4n,b6r,rn,?_,?_,λH8 l8 X8 Zi h8=>?_⟩
    ·rw[RQ];exact cM _ bB
    ·rw[RQ];have:Sf84Neutral.numbers s (cl::yO)=(Sf84Neutral.step s cl).2.length+Sf84Neutral.numbers (Sf84Neutral.step s cl).1 yO:=rfl;omega
    rw[RQ]at X8 h8;have enum:Sf84Neutral.numbers s (cl::yO)=(Sf84Neutral.step s cl).2.length+Sf84Neutral.numbers (Sf84Neutral.step s cl).1 yO:=rfl;have lcs:(cl::yO).length=yO.length+1:=rfl;have W9:=b6 _ _ b4t;have t8:H8 t=some (.lst (L.map V.int)):=X8.sm _ _ W9;have nl8:l8≠t:=Ne.symm (au W9 Zi);refine⟨_,rfl,.inl ⟨rfl,_,bp.of t8⟩,_,rfl,l8,_,rfl,.inl (bp.of h8),t,_,_,rfl,rfl,t8,by rw[aH];exact dE (by omega),?_⟩;have good0:=Ec G cl;have ZK:PyFlat.told (PyFlat.played Sf84Neutral.step Sf84Neutral.start SQ)=L++((((Sf84Neutral.step s cl).2.length:Int)::(Sf84Neutral.step s cl).2)++PyFlat.told (PyFlat.played Sf84Neutral.step (Sf84Neutral.step s cl).1 yO)):=et;generalize Sf84Neutral.step s cl=st at X8 h8 enum good0 ZK ⊢;have e9:L.map V.int++[V.int ((st.2.map V.int).length:Int)]=(L++[(st.2.length:Int)]).map V.int:=by
     rw[bH,aH];rfl
    have X9:=X8.write (x:=t) (Er.ints (L++[(st.2.length:Int)])) (.inl (by rw[W9];exact λq=>by cases q));rw[e9];refine⟨_,rfl,.inl ⟨rfl,_,bp.of af⟩,_,rfl,t,l8,_,_,rfl,rfl,af,(ao nl8).trans h8,by rw[aH,aH,ba];exact dH (by show _+1+_<=_;omega),?_⟩;have e10:(L++[(st.2.length:Int)]).map V.int++st.2.map V.int=(L++((st.2.length:Int)::st.2)).map V.int:=by
     rw[<-bH,dF];rfl
    rw[e10];have X10:=X9.write (x:=t) (Er.ints (L++((st.2.length:Int)::st.2))) (.inl (by rw[af];exact λq=>by cases q));have X11:cy C CF (upd B0 t (.lst ((L++((st.2.length:Int)::st.2)).map V.int))) (upd (upd H8 t (.lst ((L++[(st.2.length:Int)]).map V.int))) t (.lst ((L++((st.2.length:Int)::st.2)).map V.int))) c st.1:=by
     refine X10.bse (λx u e=>?_) (λx o e=>?_) λx e _=>?_
     ·by_cases q:x=t
      ·rw[q,af]at e;rw[q,af];exact e
      ·rw[ao q]at e;rw[ao q,ao q];exact X8.sm _ _ (b6 _ _ (b04 _ _ e))
     ·by_cases q:x=t
      ·rw[q,af]at e;cases e;exact Er.ints _
      ·rw[ao q]at e;exact bi x o e
     ·obtain⟨q,e⟩:=eZ (eZ e).2;exact(ao q).trans (b60 x e).1
    refine⟨⟨p+1+(n+1+m),fu',st.1,yO,L++((st.2.length:Int)::st.2),some (.ref tt),some (.ref na),some (.ref rb),some (.int ((p:Int)+1+(n:Int)+1)),some (.ref l8),?_,by omega,Rz,good0,X11,λx hx=>cM x (aS _ hx),?_,by omega,?_⟩,?_⟩
    ·show [some (V.ref a),some (V.ref c),some (V.ref t),some (V.int ((p:Int)+1+(n:Int)+1+(m:Int))),some (V.ref tt),some (V.ref na),some (V.ref rb),some (.int ((p:Int)+1+(n:Int)+1)),some (V.ref l8)]=_;rw[show(p:Int)+1+(n:Int)+1+(m:Int)=((p+1+(n+1+m):Nat):Int) by omega]
    ·rw[ba,di];omega
    ·rw[ZK,dF]
    ·show l.length - ((p:Int)+1+(n:Int)+1+(m:Int)).toNat<l.length - ((p:Int)).toNat;omega
  ·intro σ H1 Q1 Q2 hq h;obtain⟨v1,e1,v2,e2,p,ys,x1,x2,i1,j1,r1,r2,c,r3,rest⟩:=h;exact⟨v1,e1,v2,e2,p,ys,x1,x2,i1,j1,r1,r2,c,r3,hq _ _ rest⟩
end
def DF(K:Frag)(mg:Str->Option Value)(x:Str)(st:Stmt)(ps:List Str):Prop:=∃f fd,Def K mg x st ps f fd
def MF(K:Frag)(C:Addr)(m q:Str)(st:Stmt)(ps:List Str):Prop:=∃f fd,Mth K C m q st ps f fd
def IF(K:Frag)(C:Addr)(q:Str)(st:Stmt)(ps:List Str):Prop:=∃f fd,bU K "__init__" q st f fd/\Binds K fd ps []/\Mk K C f
def TF(K:Frag)(mg:Str->Option Value)(x:Str)(ns:List Str):Prop:=∃(t:Addr) (fs:List Addr),mg x=some (.ref t)/\KT K t (fs.map V.ref)/\fs.map (λf=>some (Value.ref f))=ns.map mg
def RF(K:Frag)(mg:Str->Option Value)(bD:List (Key×V))(p:Int)(n k:Nat)(x:Str):Prop:=∃(t f:Addr),jh bD (Sum.inl p)=some (.ref t)/\KT K t [vN n,vN k,.ref f]/\mg x=some (.ref f)
abbrev fq(P:Program)(w:World)(K:Frag)(mg:Str->Option Value)(x:Str)(n:Nat)(sp:Sp):Prop:=∃f,mg x=some (.ref f)/\Calls aV P w K mg f n sp
theorem DF.cl(d:DF K mg x st ps)(h:∀f fd,bU K x x st f fd->∀base,aP P w K mg base aV n f fd ps sp):fq P w K mg x n sp:=let ⟨f,fd,D⟩:=d;⟨f,D.nm,D.calls λbase=>h f fd D.fn base⟩
structure Top(w:World)(K:Frag)(mg:Str->Option Value)(CT CP CR CF CC CE N fI:Addr)(jD:FuncData):Prop where
 Cw:DF K mg "wrong_place" k7 ["program"]
 CG:DF K mg "can_be_done" lj ["instruction","found"]
 OC:DF K mg "ways_on" qC ["place","instruction","found"]
 Ba:DF K mg "goes_on_well" jU ["ways","known"]
 vc:DF K mg "number_of_bytes" hJ ["row"]
 vd:DF K mg "bytes_of_number" hU ["number","size"]
 sR:DF K mg "digits_of_number" gw ["number","base","size"]
 OL:DF K mg "dump_of" vM ["row"]
 OG:DF K mg "line_of" vH ["place","row"]
 wM:DF K mg "hexadecimal_of" iG ["number","size"]
 Ut:DF K mg "shown" E8 ["byte"]
 OH:DF K mg "is_time" vI ["time"]
 RY:DF K mg "is_way" zN ["way"]
 I0:DF K mg "is_length" pq ["length"]
 wO:DF K mg "file_of_frames" iI ["frames"]
 wN:DF K mg "frames_of_file" iH ["file"]
 Lj:DF K mg "frame_at" rY ["file","place"]
 Lc:DF K mg "total_of" rQ ["x","y"]
 yo:DF K mg "difference_of" ji ["x","y"]
 CD:DF K mg "either_bits" lh ["x","y"]
 Gi:DF K mg "product_of" mI ["x","y"]
 I_:DF K mg "both_bits" px ["x","y"]
 Ge:DF K mg "shifted_up" mz ["x","y"]
 A8:DF K mg "shifted_down" jR ["x","y"]
 Li:DF K mg "is_equal" rX ["x","y"]
 Gk:DF K mg "is_unequal" mQ ["x","y"]
 OK:DF K mg "is_less" vL ["x","y"]
 Gn:DF K mg "is_at_most" mU ["x","y"]
 OJ:DF K mg "is_more" vK ["x","y"]
 CB:DF K mg "is_at_least" lg ["x","y"]
 OE:DF K mg "negated" vG ["x"]
 Lh:DF K mg "operated" rW ["choice","x","y"]
 Lk:DF K mg "compared" rZ ["choice","x","y"]
 IU:DF K mg "tokens_of" ph ["codes"]
 OM:DF K mg "as_text" vO ["codes"]
 Lf:DF K mg "piece_at" rT ["text","place"]
 Gm:DF K mg "is_of_word" mR ["sign"]
 Ld:DF K mg "token_of" rR ["piece","place"]
 wL:DF K mg "number_of_word" iF ["word"]
 pU:DF K mg "number_with_points" e7 ["word"]
 sQ:DF K mg "number_of_digits" gu ["digits","base"]
 CA:DF K mg "known_piece" k_ ["outcome"]
 A9:DF K mg "length_piece" jS []
 CH:DF K mg "bytes_piece" ll ["place","size"]
 Ja:DF K mg "are_known" pz ["first","second"]
 u_:DF K mg "operation_piece" hG ["choice","first","second"]
 sS:DF K mg "comparison_piece" gy ["choice","first","second"]
 IZ:DF K mg "not_piece" pj ["test"]
 Jb:DF K mg "and_piece" pA ["first","second"]
 Lg:DF K mg "or_piece" rV ["first","second"]
 A_:DF K mg "joined_piece" jT ["code","first","second"]
 u9:DF K mg "program_of_text" g_ ["text"]
 rA:DF K mg "read_filter" iR ["reader"]
 Gg:DF K mg "read_tests" jB ["reader"]
 IV:DF K mg "read_test" kJ ["reader"]
 u7:DF K mg "read_comparison" eV ["reader"]
 Gf:DF K mg "read_value" jA ["reader"]
 IW:DF K mg "read_term" kK ["reader"]
 IY:DF K mg "read_part" kN ["reader"]
 Gh:DF K mg "read_bytes" jC ["reader"]
 IX:DF K mg "read_size" kM ["reader"]
 Cy:DF K mg "read_braces" iS ["reader"]
 Le:DF K mg "says_yes" rS ["program","frame"]
 Cz:DF K mg "lacks_bytes" k8 ["instruction","values","frame"]
 Gj:DF K mg "leaves_out" mM ["instruction","values"]
 wQ:DF K mg "do_instruction" iJ ["instruction","values","frame"]
 OI:DF K mg "is_slot" vJ ["slot"]
 CJ:DF K mg "answer_open" lq ["capture","numbers","row"]
 Gq:DF K mg "answer_add" m5 ["capture","numbers","row"]
 yp:DF K mg "answer_counts" jj ["capture","numbers","row"]
 Gp:DF K mg "answer_get" mX ["capture","numbers","row"]
 wV:DF K mg "answer_compile" iM ["capture","numbers","row"]
 wU:DF K mg "answer_program" iL ["capture","numbers","row"]
 CK:DF K mg "answer_load" lx ["capture","numbers","row"]
 Bc:DF K mg "answer_clear" jW ["capture","numbers","row"]
 CL:DF K mg "answer_gate" ly ["capture","numbers","row"]
 CM:DF K mg "answer_fits" lz ["capture","numbers","row"]
 CN:DF K mg "answer_find" lA ["capture","numbers","row"]
 Bb:DF K mg "answer_total" jV ["capture","numbers","row"]
 CO:DF K mg "answer_dump" lB ["capture","numbers","row"]
 CI:DF K mg "answer_save" lp ["capture","numbers","row"]
 wR:DF K mg "answer_restore" iK ["capture","numbers","row"]
 ON:DF K mg "answers" lX ["calls"]
 T4:IF K CF "Frame.__init__" ni ["self","number","time","way","length","kept"]
 AH:MF K CF "weight" "Frame.weight" jX ["self"]
 uL:MF K CF "shortened" "Frame.shortened" hZ ["self","snap"]
 T2:IF K CT "Token.__init__" m_ ["self","sign","place","number"]
 T3:IF K CP "Piece.__init__" nh ["self","outcome","instructions"]
 Rn:IF K CR "Reader.__init__" lE ["self","tokens"]
 yl:MF K CR "coming" "Reader.coming" jk ["self"]
 Cs:MF K CR "take" "Reader.take" lD ["self"]
 sE:MF K CR "take_only" "Reader.take_only" gz ["self","sign"]
 nA:MF K CR "enter_bracket" "Reader.enter_bracket" eF ["self"]
 nz:MF K CR "leave_bracket" "Reader.leave_bracket" eE ["self","sign"]
 N8:IF K CC "Capture.__init__" jZ ["self"]
 sG:MF K CC "make_new" "Capture.make_new" gB ["self","opened","room","snap"]
 ym:MF K CC "begin" "Capture.begin" jl ["self","room","snap"]
 qS:MF K CC "add_frame" "Capture.add_frame" gh ["self","time","way","frame"]
 AI:MF K CC "keep" "Capture.keep" jY ["self","frame"]
 qR:MF K CC "make_room" "Capture.make_room" gg ["self"]
 oG:MF K CC "tell_counts" "Capture.tell_counts" eR ["self"]
 sH:MF K CC "frame_of" "Capture.frame_of" gC ["self","number"]
 pN:MF K CC "tell_frame" "Capture.tell_frame" fb ["self","number"]
 nM:MF K CC "compile_text" "Capture.compile_text" eK ["self","slot","text"]
 pO:MF K CC "refusal_of" "Capture.refusal_of" fc ["self","slot"]
 nE:MF K CC "tell_program" "Capture.tell_program" eG ["self","slot"]
 nJ:MF K CC "load_program" "Capture.load_program" eJ ["self","slot","numbers"]
 pP:MF K CC "clear_slot" "Capture.clear_slot" fg ["self","slot"]
 sF:MF K CC "set_gate" "Capture.set_gate" gA ["self","slot"]
 qO:MF K CC "try_frame" "Capture.try_frame" gb ["self","slot","frame"]
 uM:MF K CC "fitting" "Capture.fitting" h_ ["self","slot"]
 oH:MF K CC "find_frames" "Capture.find_frames" eS ["self","slot","start","most"]
 pM:MF K CC "tell_total" "Capture.tell_total" e_ ["self","slot"]
 qQ:MF K CC "tell_dump" "Capture.tell_dump" gf ["self","number"]
 qP:MF K CC "tell_file" "Capture.tell_file" gc ["self"]
 nH:MF K CC "restore_file" "Capture.restore_file" eI ["self","file"]
 pJ:mg "len"=none
 Mh:mg "range"=none
 US:mg "ord"=none
 Ip:mg "enumerate"=none
 YL:mg "min"=none
 acs:mg "max"=none
 acr:mg "sum"=none
 V6:mg "list"=none
 Kq:mg "reversed"=none
 ins:tj mg
 OR:So K mg
 dum:Sl mg
 fil:MQ K mg
 Ej:ml mg
 tok:Bo K mg CT
 Pu:iz K mg CP
 rea:vm K mg CR
 JG:fo K mg CF
 oA:aX K mg CC
 exc:Bq K mg CE N fI jD
 Oi:GI mg "VALUE_LIMIT" yT
 ZA:GI mg "VALUE_BITS" 64
 ZC:GI mg "BYTE_LIMIT" 256
 acd:GI mg "EXTRA_WEIGHT" 24
 ab5:GI mg "TIME_LIMIT" Ly
 ab8:GI mg "MOST_BRACKETS" 40
 ab7:GI mg "MOST_BYTES_OF_VALUE" 8
 acb:GI mg "KIND_PLACE" 12
 aca:GI mg "KIND_SIZE" 2
 ab9:GI mg "LAST_SHOWN" 126
 ab6:GI mg "POINT_BYTE" 46
 abm:GS mg "HEXADECIMAL_DIGITS" Xf
 s_P:GS mg "POINT" "."
 Yf:GS mg "LETTERS_AND_DIGITS" LA
 Yg:GS mg "BLANKS" Pj
 Yd:GS mg "SHORT_SIGNS" nZ
 Ye:GS mg "NUMBER" (dS NG)
 Yc:GS mg "TEXT_END" (dS uY)
 abl:GS mg "HEXADECIMAL" UC
 XN:∃a,mg "LONG_SIGNS"=some (.ref a)/\KT K a (dD.map dM)
 abc:∃a,mg "WORDS"=some (.ref a)/\KT K a (kX.map dM)
 abd:TF K mg "OPERATIONS" ["total_of","difference_of","either_bits","product_of","both_bits","shifted_up","shifted_down"]
 abe:TF K mg "COMPARISONS" ["is_equal","is_unequal","is_less","is_at_most","is_more","is_at_least"]
 k_T:∃a,mg "TERM_SIGNS"=some (.ref a)/\jg K w a (Po 10 4 3)
 k_V:∃a,mg "VALUE_SIGNS"=some (.ref a)/\jg K w a (Po 7 3 0)
 k_C:∃a,mg "COMPARISON_SIGNS"=some (.ref a)/\jg K w a (Po 14 6 0)
 calls:∃aC bD,mg "CALLS"=some (.ref aC)/\jg K w aC bD/\RF K mg bD 1 2 0 "answer_open"/\RF K mg bD 2 2 1 "answer_add"/\RF K mg bD 3 0 0 "answer_counts"/\RF K mg bD 4 1 0 "answer_get"/\RF K mg bD 5 1 1 "answer_compile"/\RF K mg bD 6 1 0 "answer_program"/\RF K mg bD 7 1 1 "answer_load"/\RF K mg bD 8 1 0 "answer_clear"/\RF K mg bD 9 1 0 "answer_gate"/\RF K mg bD 10 1 1 "answer_fits"/\RF K mg bD 11 3 0 "answer_find"/\RF K mg bD 12 1 0 "answer_total"/\RF K mg bD 13 1 0 "answer_dump"/\RF K mg bD 14 0 0 "answer_save"/\RF K mg bD 15 0 1 "answer_restore"
theorem gD(h:mg x=some (.ref f))(k:mg x=some (.ref g)):f=g:=by
 rw[h]at k;exact Value.ref.inj (aO k)
theorem Mth.meths(D:Mth K C x q st ps f fd)(F:∀base,aP P w K mg base CX k f fd ps sp):bh CX P w K mg C x k sp:=⟨⟨f,fd,ps,D.me,F,D.bd⟩⟩
section
variable {CT CP CR CF CC CE N fI:Addr} {jD:FuncData} (T:Top w K mg CT CP CR CF CC CE N fI jD)
include T
theorem kU:fq P w K mg "number_of_bytes" 1 (Hm):=T.vc.cl λ_ _ F _=>sr F T.ZC
theorem LD:fq P w K mg "total_of" 1 (q_ (reckoned 0)):=T.Lc.cl λ_ _ F _=>HS F T.Oi
theorem yx:fq P w K mg "difference_of" 1 (q_ (reckoned 1)):=T.yo.cl λ_ _ F _=>vY F T.Oi
theorem C9:fq P w K mg "either_bits" 1 (q_ (reckoned 2)):=T.CD.cl λ_ _ F _=>Ak F
theorem GO:fq P w K mg "product_of" 1 (q_ (reckoned 3)):=T.Gi.cl λ_ _ F _=>Ca F T.Oi
theorem Jx:fq P w K mg "both_bits" 1 (q_ (reckoned 4)):=T.I_.cl λ_ _ F _=>Fy F
theorem GN:fq P w K mg "shifted_up" 1 (q_ (reckoned 5)):=T.Ge.cl λ_ _ F _=>B3 F T.Oi T.ZA
theorem Bs:fq P w K mg "shifted_down" 1 (q_ (reckoned 6)):=T.A8.cl λ_ _ F _=>ya F T.ZA
theorem LI:fq P w K mg "is_equal" 1 (q_ (kb 0)):=T.Li.cl λ_ _ F _=>Ia F
theorem GQ:fq P w K mg "is_unequal" 1 (q_ (kb 1)):=T.Gk.cl λ_ _ F _=>Cc F
theorem Pf:fq P w K mg "is_less" 1 (q_ (kb 2)):=T.OK.cl λ_ _ F _=>Kj F
theorem GU:fq P w K mg "is_at_most" 1 (q_ (kb 3)):=T.Gn.cl λ_ _ F _=>Ce F
theorem Pe:fq P w K mg "is_more" 1 (q_ (kb 4)):=T.OJ.cl λ_ _ F _=>Ki F
theorem C8:fq P w K mg "is_at_least" 1 (q_ (kb 5)):=T.CB.cl λ_ _ F _=>Ai F
theorem Es:fq P w K mg "negated" 1 (Ho):=T.OE.cl λ_ _ F _=>Ke F
theorem Bt:fq P w K mg "operated" 2 (Qb):=by
 obtain⟨f,fd,D⟩:=T.Lh;obtain⟨WM,Kv,Lr⟩:=LD (P:=P) T;obtain⟨Pz,yk,yr⟩:=yx (P:=P) T;obtain⟨SM,Cq,C0⟩:=C9 (P:=P) T;obtain⟨Uj,FK,Gx⟩:=GO (P:=P) T;obtain⟨Vb,Iw,Jo⟩:=Jx (P:=P) T;obtain⟨Ui,FJ,Gw⟩:=GN (P:=P) T;obtain⟨RL,AE,Bg⟩:=Bs (P:=P) T;obtain⟨t,fs,mt,kt,es⟩:=T.abd;have hl:fs.length=7:=by simpa using congrArg List.length es
 have hc:∀(k:Nat) (g:Addr),fs[k]? =some g->Calls aV P w K mg g 1 (q_ (reckoned k)):=by
  intro k g hg;have e:(fs.map λf=>some (Value.ref f))[k]? =some (some (.ref g)):=by rw[bO,hg];rfl
  rw[es]at e
  match k,e with
  |0,e=>
   have e:mg "total_of"=some (.ref g):=aO e;rw[gD e Kv];exact Lr
  |1,e=>
   have e:mg "difference_of"=some (.ref g):=aO e;rw[gD e yk];exact yr
  |2,e=>
   have e:mg "either_bits"=some (.ref g):=aO e;rw[gD e Cq];exact C0
  |3,e=>
   have e:mg "product_of"=some (.ref g):=aO e;rw[gD e FK];exact Gx
  |4,e=>
   have e:mg "both_bits"=some (.ref g):=aO e;rw[gD e Iw];exact Jo
  |5,e=>
   have e:mg "shifted_up"=some (.ref g):=aO e;rw[gD e FJ];exact Gw
  |6,e=>
   have e:mg "shifted_down"=some (.ref g):=aO e;rw[gD e AE];exact Bg
  |k+7,e=>simp at e
 exact⟨f,D.nm,D.calls λbase=>HZ D.fn mt kt hl hc⟩
theorem Bw:fq P w K mg "compared" 2 (Hq):=by
 obtain⟨f,fd,D⟩:=T.Lk;obtain⟨WQ,Ky,Lv⟩:=LI (P:=P) T;obtain⟨Ul,FO,Gz⟩:=GQ (P:=P) T;obtain⟨XA,NT,O1⟩:=Pf (P:=P) T;obtain⟨Uo,FQ,GB⟩:=GU (P:=P) T;obtain⟨Xz,NS,O0⟩:=Pe (P:=P) T;obtain⟨SK,Cp,CZ⟩:=C8 (P:=P) T;obtain⟨t,fs,mt,kt,es⟩:=T.abe;have hl:fs.length=6:=by simpa using congrArg List.length es
 have hc:∀(k:Nat) (g:Addr),fs[k]? =some g->Calls aV P w K mg g 1 (q_ (kb k)):=by
  intro k g hg;have e:(fs.map λf=>some (Value.ref f))[k]? =some (some (.ref g)):=by rw[bO,hg];rfl
  rw[es]at e
  match k,e with
  |0,e=>
   have e:mg "is_equal"=some (.ref g):=aO e;rw[gD e Ky];exact Lv
  |1,e=>
   have e:mg "is_unequal"=some (.ref g):=aO e;rw[gD e FO];exact Gz
  |2,e=>
   have e:mg "is_less"=some (.ref g):=aO e;rw[gD e NT];exact O1
  |3,e=>
   have e:mg "is_at_most"=some (.ref g):=aO e;rw[gD e FQ];exact GB
  |4,e=>
   have e:mg "is_more"=some (.ref g):=aO e;rw[gD e NS];exact O0
  |5,e=>
   have e:mg "is_at_least"=some (.ref g):=aO e;rw[gD e Cp];exact CZ
  |k+6,e=>simp at e
 exact⟨f,D.nm,D.calls λbase=>Ie D.fn mt kt hl hc⟩
theorem C7:fq P w K mg "lacks_bytes" 1 (yE):=T.Cz.cl λ_ _ F _=>Ag F T.ins T.pJ
theorem GP:fq P w K mg "leaves_out" 1 (tT):=T.Gj.cl λ_ _ F _=>Cb F T.ins
theorem xi:fq P w K mg "do_instruction" 3 (S5):=by
 obtain⟨f,fd,D⟩:=T.wQ;obtain⟨KZ,sA,sV⟩:=Bt (P:=P) T;obtain⟨K0,sC,sW⟩:=Bw (P:=P) T;obtain⟨Ot,wd,wZ⟩:=Es (P:=P) T;obtain⟨uX,ik,iy⟩:=kU (P:=P) T;exact⟨f,D.nm,D.calls λbase=>uD D.fn T.ins T.pJ sA sV sC sW wd wZ ik iy⟩
theorem tp:fq P w K mg "says_yes" 4 (rK):=by
 obtain⟨f,fd,D⟩:=T.Le;obtain⟨SJ,Co,CY⟩:=C7 (P:=P) T;obtain⟨Uk,FN,Gy⟩:=GP (P:=P) T;obtain⟨Oy,wm,xa⟩:=xi (P:=P) T;exact⟨f,D.nm,D.calls λbase=>HW D.fn T.ins Co CY FN Gy wm xa⟩
theorem C_:fq P w K mg "can_be_done" 1 (LU):=T.CG.cl λ_ _ F _=>Al F T.OR T.pJ
theorem Pc:fq P w K mg "ways_on" 1 (EH):=T.OC.cl λ_ _ F _=>Kd F T.OR T.ins
theorem Bv:fq P w K mg "goes_on_well" 1 (ET):=T.Ba.cl λ_ _ F _=>yf F T.OR T.pJ
theorem rC:fq P w K mg "wrong_place" 2 (tQ):=by
 obtain⟨f,fd,D⟩:=T.Cw;obtain⟨SN,Cr,C3⟩:=C_ (P:=P) T;obtain⟨Xx,NQ,OY⟩:=Pc (P:=P) T;obtain⟨RN,AG,Bi⟩:=Bv (P:=P) T;exact⟨f,D.nm,D.calls λbase=>Ac D.fn T.OR T.pJ T.Ip Cr C3 NQ OY AG Bi⟩
theorem oh:Makes P w K mg CP 1 (d9 CP):=by
 obtain⟨f,fd,F,b,M⟩:=T.T3;exact⟨⟨f,fd,_,M,λbase=>Ck F T.Pu,b⟩⟩
theorem iW:fq P w K mg "known_piece" 3 (kD CP):=T.CA.cl λ_ _ F _=>Ah F T.Pu T.ins (oh T)
theorem Bu:fq P w K mg "length_piece" 3 (ES CP):=T.A9.cl λ_ _ F _=>yd F T.Pu T.ins (oh T)
theorem Dc:fq P w K mg "bytes_piece" 3 (mx CP):=T.CH.cl λ_ _ F _=>Am F T.Pu T.ins (oh T)
theorem xR:fq P w K mg "are_known" 1 (Hr CP):=T.Ja.cl λ_ _ F _=>Fz F T.Pu
theorem vt:fq P w K mg "operation_piece" 4 (vB CP):=by
 obtain⟨f,fd,D⟩:=T.u_;obtain⟨IM,pL,p9⟩:=xR (P:=P) T;obtain⟨rq,gm,gn⟩:=iW (P:=P) T;obtain⟨KZ,sA,sV⟩:=Bt (P:=P) T;exact⟨f,D.nm,D.calls λbase=>sj D.fn T.Pu T.ins (oh T) pL p9 gm gn sA sV⟩
theorem tq:fq P w K mg "comparison_piece" 4 (tZ CP):=by
 obtain⟨f,fd,D⟩:=T.sS;obtain⟨IM,pL,p9⟩:=xR (P:=P) T;obtain⟨rq,gm,gn⟩:=iW (P:=P) T;obtain⟨K0,sC,sW⟩:=Bw (P:=P) T;exact⟨f,D.nm,D.calls λbase=>qN D.fn T.Pu T.ins (oh T) pL p9 gm gn sC sW⟩
theorem Jv:fq P w K mg "not_piece" 4 (qw CP):=by
 obtain⟨f,fd,D⟩:=T.IZ;obtain⟨rq,gm,gn⟩:=iW (P:=P) T;obtain⟨Ot,wd,wZ⟩:=Es (P:=P) T;exact⟨f,D.nm,D.calls λbase=>Fv D.fn T.Pu T.ins (oh T) gm gn wd wZ⟩
theorem qh:fq P w K mg "joined_piece" 3 (zp CP):=T.A_.cl λ_ _ F _=>ye F T.Pu (oh T) T.pJ
theorem Jy:fq P w K mg "and_piece" 4 (t7 CP .and_):=by
 obtain⟨f,fd,D⟩:=T.Jb;obtain⟨A2,j5,ki⟩:=qh (P:=P) T;exact⟨f,D.nm,D.calls λbase=>FA D.fn T.Pu T.ins j5 ki⟩
theorem LH:fq P w K mg "or_piece" 4 (t7 CP .or_):=by
 obtain⟨f,fd,D⟩:=T.Lg;obtain⟨A2,j5,ki⟩:=qh (P:=P) T;exact⟨f,D.nm,D.calls λbase=>HY D.fn T.Pu T.ins j5 ki⟩
theorem ko:fq P w K mg "number_of_digits" 1 (oZ):=T.sQ.cl λ_ _ F _=>qL F T.abm T.Oi T.YL
theorem qg:fq P w K mg "number_with_points" 2 (tR):=by
 obtain⟨f,fd,D⟩:=T.pU;obtain⟨sN,gI,gL⟩:=ko (P:=P) T;exact⟨f,D.nm,D.calls λbase=>oE D.fn T.s_P T.pJ gI gL⟩
theorem xb:fq P w K mg "number_of_word" 3 (EG):=by
 obtain⟨f,fd,D⟩:=T.wL;obtain⟨sN,gI,gL⟩:=ko (P:=P) T;obtain⟨IL,pK,p8⟩:=qg (P:=P) T;exact⟨f,D.nm,D.calls λbase=>uz D.fn T.s_P T.Oi gI gL pK p8⟩
theorem GR:fq P w K mg "is_of_word" 1 (tS):=T.Gm.cl λ_ _ F _=>Cd F T.Yf T.s_P
theorem LG:fq P w K mg "piece_at" 2 (yD):=by
 obtain⟨f,fd,D⟩:=T.Lf;obtain⟨Um,FP,GA⟩:=GR (P:=P) T;obtain⟨aL,mL,kL⟩:=T.XN;exact⟨f,D.nm,D.calls λbase=>HX D.fn T.pJ FP GA mL kL⟩
theorem MP:Makes P w K mg CT 1 (i5 CT):=by
 obtain⟨f,fd,F,b,M⟩:=T.T2;exact⟨⟨f,fd,_,M,λbase=>Cj F T.tok,b⟩⟩
theorem LF:∃f,mg "token_of"=some (.ref f)/\Calls (gq P w CE) P w K mg f 4 (Qa CT):=by
 obtain⟨f,fd,D⟩:=T.Ld;obtain⟨Oq,wc,wY⟩:=xb (P:=P) T;obtain⟨aL,mL,kL⟩:=T.XN;obtain⟨aW,mW,kW⟩:=T.abc;exact⟨f,D.nm,D.calls λbase=>HU D.fn T.tok (MP T) T.exc mL kL T.Yd mW kW wc wY T.Ye⟩
theorem Ph:fq P w K mg "as_text" 1 (EJ):=T.OM.cl λ_ _ F _=>Km F T.Yf T.s_P T.Yg T.Yd T.US
theorem Ju:∃f,mg "tokens_of"=some (.ref f)/\Calls (gq P w CE) P w K mg f 5 (EI CT):=by
 obtain⟨f,fd,D⟩:=T.IU;obtain⟨XD,NV,O3⟩:=Ph (P:=P) T;obtain⟨WO,Kx,Lu⟩:=LG (P:=P) T;obtain⟨WN,Kw,Ls⟩:=LF (P:=P) T;exact⟨f,D.nm,D.calls λbase=>Fl D.fn T.tok (MP T) T.exc T.Yg T.Yc T.pJ NV O3 Kx Lu Kw Ls⟩
theorem Sj:Makes P w K mg CR 1 (tV CR):=by
 obtain⟨f,fd,F,b,M⟩:=T.Rn;exact⟨⟨f,fd,_,M,λbase=>Aw F T.rea,b⟩⟩
theorem yu:bh aV P w K mg CR "coming" 1 (i6 CR CT):=by
 obtain⟨f,fd,D⟩:=T.yl;exact D.meths λbase=>v9 D.fn T.rea
theorem C6:bh aV P w K mg CR "take" 1 (zk CR CT):=by
 obtain⟨f,fd,D⟩:=T.Cs;exact D.meths λbase=>Av D.fn T.rea
theorem R_C:Xd P w K mg CR CT CE N fI jD:=⟨T.rea,T.tok,T.exc,yu T,C6 T⟩
theorem kj:bh (gq P w CE) P w K mg CR "take_only" 2 (zm CR CT):=by
 obtain⟨f,fd,D⟩:=T.sE;exact D.meths λbase=>Fo D.fn (R_C T)
theorem n8:bh (gq P w CE) P w K mg CR "enter_bracket" 2 (yG CR CT):=by
 obtain⟨f,fd,D⟩:=T.nA;exact D.meths λbase=>Q0 D.fn (R_C T) T.ab8
theorem n4:bh (gq P w CE) P w K mg CR "leave_bracket" 3 (tU CR CT):=by
 obtain⟨f,fd,D⟩:=T.nz;exact D.meths λbase=>QZ D.fn (R_C T) (kj T)
theorem F_C:FC P w K mg CR CT CP CE N fI jD:=⟨R_C T,kj T,n8 T,n4 T,T.Ye⟩
theorem V_D:VD P w K mg CR CT CP CE N fI jD:=⟨F_C T,T.Gf,T.IW,T.IY,T.Gh,T.Cy,T.IX,T.ab7,T.acb,T.aca,iW T,Bu T,Dc T,vt T,T.k_T,T.k_V⟩
theorem T_D:TD P w K mg CR CT CP CE N fI jD:=⟨V_D T,T.rA,T.Gg,T.IV,T.u7,T.Mh,tq T,Jv T,Jy T,LH T,T.k_C⟩
theorem vq:∃f,mg "program_of_text"=some (.ref f)/\Calls (gq P w CE) P w K mg f 173 (EM):=by
 obtain⟨f,fd,D⟩:=T.u9;obtain⟨Va,Iv,Jn⟩:=Ju (P:=P) T;obtain⟨fF,fdF,DF⟩:=T.rA;exact⟨f,D.nm,D.calls λbase=>si D.fn (F_C T) T.ins T.Pu (Sj T) T.Yc Iv Jn DF.nm (Mz (T_D T) DF.nm 40)⟩
theorem kq:fq P w K mg "digits_of_number" 1 (zq):=T.sR.cl λ_ _ F _=>qM F T.Mh T.V6 T.Kq
theorem vv:fq P w K mg "bytes_of_number" 2 (qA):=by
 obtain⟨f,fd,D⟩:=T.vd;obtain⟨sO,gJ,gM⟩:=kq (P:=P) T;exact⟨f,D.nm,D.calls λbase=>su D.fn T.ZC gJ gM⟩
theorem UD:fq P w K mg "shown" 1 (yB):=T.Ut.cl λ_ _ F _=>QY F T.dum.bl T.ab9 T.ab6
theorem xf:fq P w K mg "hexadecimal_of" 2 (LR):=by
 obtain⟨f,fd,D⟩:=T.wM;obtain⟨sO,gJ,gM⟩:=kq (P:=P) T;exact⟨f,D.nm,D.calls λbase=>uA D.fn T.abl T.US gJ gM⟩
theorem Pd:fq P w K mg "line_of" 3 (ER):=by
 obtain⟨f,fd,D⟩:=T.OG;obtain⟨Ov,wg,w8⟩:=xf (P:=P) T;obtain⟨aaa,TX,Ux⟩:=UD (P:=P) T;exact⟨f,D.nm,D.calls λbase=>Kf D.fn T.dum wg w8 TX Ux⟩
theorem Pg:fq P w K mg "dump_of" 4 (EX):=by
 obtain⟨f,fd,D⟩:=T.OL;obtain⟨Xy,NR,OZ⟩:=Pd (P:=P) T;exact⟨f,D.nm,D.calls λbase=>Kl D.fn T.dum NR OZ⟩
theorem GL:Makes P w K mg CF 1 (jM CF):=by
 obtain⟨f,fd,F,b,M⟩:=T.T4;exact⟨⟨f,fd,_,M,λbase=>Cm F T.JG,b⟩⟩
theorem qa:bh aV P w K mg CF "weight" 1 (oY CF):=by
 obtain⟨f,fd,D⟩:=T.AH;exact D.meths λbase=>Nz D.fn T.JG T.pJ T.acd
theorem vn:bh aV P w K mg CF "shortened" 3 (yC CF):=by
 obtain⟨f,fd,D⟩:=T.uL;exact D.meths λbase=>Fp D.fn T.JG (GL T)
theorem Et:fq P w K mg "is_time" 1 (zj):=T.OH.cl λ_ _ F _=>Kg F T.ab5
theorem Jw:fq P w K mg "is_way" 1 (Hl):=T.RY.cl λ_ _ F _=>NA F
theorem qi:fq P w K mg "is_length" 1 (qx):=T.I0.cl λ_ _ F _=>Fx F T.Ej.mb
theorem xh:fq P w K mg "file_of_frames" 3 (tX CF):=by
 obtain⟨f,fd,D⟩:=T.wO;obtain⟨MB,uK,vi⟩:=vv (P:=P) T;exact⟨f,D.nm,D.calls λbase=>uC D.fn T.JG T.fil uK vi⟩
theorem LJ:fq P w K mg "frame_at" 3 (qy CF):=by
 obtain⟨f,fd,D⟩:=T.Lj;obtain⟨uX,ik,iy⟩:=kU (P:=P) T;obtain⟨Ou,we,w6⟩:=Et (P:=P) T;obtain⟨RM,AF,Bh⟩:=Jw (P:=P) T;obtain⟨xN,jc,jf⟩:=qi (P:=P) T;exact⟨f,D.nm,D.calls λbase=>Ic D.fn T.JG T.fil (GL T) ik iy we w6 AF Bh jc jf⟩
theorem xg:fq P w K mg "frames_of_file" 4 (tW CF):=by
 obtain⟨f,fd,D⟩:=T.wN;obtain⟨WR,Kz,Lw⟩:=LJ (P:=P) T;exact⟨f,D.nm,D.calls λbase=>uB D.fn T.JG T.fil Kz Lw⟩
theorem xc:fq P w K mg "is_slot" 1 (vA):=T.OI.cl λ_ _ F _=>Kh F T.Ej
theorem cg:bh aV P w K mg CC "refusal_of" 2 (ft CC CF):=by
 obtain⟨f,fd,D⟩:=T.pO;obtain⟨Ee,l0,mh⟩:=xc (P:=P) T;exact D.meths λbase=>B7 D.fn T.oA T.Ej l0 mh
theorem km:bh aV P w K mg CC "frame_of" 1 (lS CC CF):=by
 obtain⟨f,fd,D⟩:=T.sH;exact D.meths λbase=>Ib D.fn T.oA T.JG
theorem oQ:bh aV P w K mg CC "tell_counts" 1 (tY CC CF):=by
 obtain⟨f,fd,D⟩:=T.oG;exact D.meths λbase=>Ad D.fn T.oA T.Ej
theorem qc:bh aV P w K mg CC "tell_frame" 2 (LS CC CF):=by
 obtain⟨f,fd,D⟩:=T.pN;exact D.meths λbase=>B2 D.fn T.oA T.JG T.Ej (km T)
theorem qY:bh aV P w K mg CC "tell_dump" 5 (yH CC CF):=by
 obtain⟨f,fd,D⟩:=T.qQ;obtain⟨XC,NU,O2⟩:=Pg (P:=P) T;exact D.meths λbase=>Fn D.fn T.oA T.JG T.Ej (km T) NU O2
theorem qX:bh aV P w K mg CC "tell_file" 4 (EL CC CF):=by
 obtain⟨f,fd,D⟩:=T.qP;obtain⟨Ox,wk,w_⟩:=xh (P:=P) T;exact D.meths λbase=>Fm D.fn T.oA T.Ej wk w_
theorem n9:bh aV P w K mg CC "tell_program" 3 (qv CC CF):=by
 obtain⟨f,fd,D⟩:=T.nE;exact D.meths λbase=>x_ D.fn T.oA T.Ej (cg T)
theorem qe:bh aV P w K mg CC "clear_slot" 3 (yI CC CF):=by
 obtain⟨f,fd,D⟩:=T.pP;exact D.meths λbase=>Cf D.fn T.oA T.Ej (cg T)
theorem s_:bh aV P w K mg CC "set_gate" 3 (EU CC CF):=by
 obtain⟨f,fd,D⟩:=T.sF;exact D.meths λbase=>HV D.fn T.oA T.Ej (cg T)
theorem qW:bh aV P w K mg CC "try_frame" 5 (EV CC CF):=by
 obtain⟨f,fd,D⟩:=T.qO;obtain⟨xN,jc,jf⟩:=qi (P:=P) T;obtain⟨A1,j4,kh⟩:=tp (P:=P) T;exact D.meths λbase=>Fj D.fn T.oA T.Ej (cg T) jc jf j4 kh
theorem oe:bh aV P w K mg CC "load_program" 3 (EO CC CF):=by
 obtain⟨f,fd,D⟩:=T.nJ;obtain⟨Ee,l0,mh⟩:=xc (P:=P) T;obtain⟨Cv,lH,lO⟩:=rC (P:=P) T;exact D.meths λbase=>yc D.fn T.oA T.Ej l0 mh lH lO
theorem og:bh aV P w K mg CC "compile_text" 174 (qz CC CF):=by
 obtain⟨f,fd,D⟩:=T.nM;obtain⟨Ee,l0,mh⟩:=xc (P:=P) T;obtain⟨Cv,lH,lO⟩:=rC (P:=P) T;obtain⟨MA,uJ,vh⟩:=vq (P:=P) T;exact D.meths λbase=>yg D.fn T.oA T.Ej T.exc l0 mh lH lO uJ vh
theorem kR:bh aV P w K mg CC "fitting" 5 (lT CC CF):=by
 obtain⟨f,fd,D⟩:=T.uM;obtain⟨A1,j4,kh⟩:=tp (P:=P) T;exact D.meths λbase=>Kk D.fn T.oA T.JG j4 kh
theorem oR:bh aV P w K mg CC "find_frames" 6 (EW CC CF):=by
 obtain⟨f,fd,D⟩:=T.oH;exact D.meths λbase=>Aj D.fn T.oA T.JG T.Ej (cg T) (kR T)
theorem qb:bh aV P w K mg CC "tell_total" 6 (yA CC CF):=by
 obtain⟨f,fd,D⟩:=T.pM;exact D.meths λbase=>B1 D.fn T.oA T.JG T.Ej (cg T) (kR T)
theorem qd:bh aV P w K mg CC "keep" 4 (zo CC CF):=by
 obtain⟨f,fd,D⟩:=T.AI;exact D.meths λbase=>TB D.fn T.oA T.JG T.Ej (vn T) (qa T)
theorem jw:bh aV P w K mg CC "make_room" 2 (zl CC CF):=by
 obtain⟨f,fd,D⟩:=T.qR;exact D.meths λbase=>Fw D.fn T.oA T.JG (qa T)
theorem kl:bh aV P w K mg CC "make_new" 1 (Hn CC):=by
 obtain⟨f,fd,D⟩:=T.sG;exact D.meths λbase=>H_ D.fn T.oA T.Ej
theorem Pb:Makes P w K mg CC 2 (yF CC):=by
 obtain⟨f,fd,F,b,M⟩:=T.N8;exact⟨⟨f,fd,_,M,λbase=>yj F T.oA (kl T),b⟩⟩
theorem yw:bh aV P w K mg CC "begin" 2 (EN CC CF):=by
 obtain⟨f,fd,D⟩:=T.ym;exact D.meths λbase=>Q3 D.fn T.oA T.Ej (kl T)
theorem qZ:bh aV P w K mg CC "add_frame" 5 (LV CC CF):=by
 obtain⟨f,fd,D⟩:=T.qS;obtain⟨Ou,we,w6⟩:=Et (P:=P) T;obtain⟨RM,AF,Bh⟩:=Jw (P:=P) T;obtain⟨xN,jc,jf⟩:=qi (P:=P) T;obtain⟨A1,j4,kh⟩:=tp (P:=P) T;exact D.meths λbase=>FD D.fn T.oA T.JG T.Ej (GL T) (qd T) (jw T) we w6 AF Bh jc jf j4 kh
theorem n_:bh aV P w K mg CC "restore_file" 5 (qu CC CF):=by
 obtain⟨f,fd,D⟩:=T.nH;obtain⟨Ow,wj,w9⟩:=xg (P:=P) T;exact D.meths λbase=>yb D.fn T.oA T.JG T.Ej (qd T) (jw T) wj w9
theorem De:fq P w K mg "answer_open" 3 (b4 CC CF 2 1 (Bd 1)):=T.CJ.cl λ_ _ F _=>Ao F T.oA (yw T)
theorem GX:fq P w K mg "answer_add" 6 (b4 CC CF 2 2 (OQ 2)):=T.Gq.cl λ_ _ F _=>Ci F T.oA (qZ T)
theorem yy:fq P w K mg "answer_counts" 2 (b4 CC CF 0 3 (Bd 3)):=T.yp.cl λ_ _ F _=>vZ F T.oA (oQ T)
theorem GW:fq P w K mg "answer_get" 3 (b4 CC CF 1 4 (Bd 4)):=T.Gp.cl λ_ _ F _=>Cg F T.oA (qc T)
theorem xl:fq P w K mg "answer_compile" 175 (b4 CC CF 1 5 (OQ 5)):=T.wV.cl λ_ _ F _=>uG F T.oA (og T)
theorem xk:fq P w K mg "answer_program" 4 (b4 CC CF 1 6 (Bd 6)):=T.wU.cl λ_ _ F _=>uF F T.oA (n9 T)
theorem Df:fq P w K mg "answer_load" 4 (b4 CC CF 1 7 (OQ 7)):=T.CK.cl λ_ _ F _=>Ap F T.oA (oe T)
theorem By:fq P w K mg "answer_clear" 4 (b4 CC CF 1 8 (Bd 8)):=T.Bc.cl λ_ _ F _=>yi F T.oA (qe T)
theorem Dg:fq P w K mg "answer_gate" 4 (b4 CC CF 1 9 (Bd 9)):=T.CL.cl λ_ _ F _=>Aq F T.oA (s_ T)
theorem Dh:fq P w K mg "answer_fits" 6 (b4 CC CF 1 10 (OQ 10)):=T.CM.cl λ_ _ F _=>Ar F T.oA (qW T)
theorem Di:fq P w K mg "answer_find" 7 (b4 CC CF 3 11 (Bd 11)):=T.CN.cl λ_ _ F _=>As F T.oA (oR T)
theorem Bx:fq P w K mg "answer_total" 7 (b4 CC CF 1 12 (Bd 12)):=T.Bb.cl λ_ _ F _=>yh F T.oA (qb T)
theorem Dj:fq P w K mg "answer_dump" 6 (b4 CC CF 1 13 (Bd 13)):=T.CO.cl λ_ _ F _=>Au F T.oA (qY T)
theorem Dd:fq P w K mg "answer_save" 5 (b4 CC CF 0 14 (Bd 14)):=T.CI.cl λ_ _ F _=>An F T.oA (qX T)
theorem xj:fq P w K mg "answer_restore" 6 (b4 CC CF 0 15 (OQ 15)):=T.wR.cl λ_ _ F _=>uE F T.oA (n_ T)
omit T in
theorem RF.go{p:Int}(R:RF K mg bD p n k x)(c:∃f,mg x=some (.ref f)/\Calls aV P w K mg f j sp)(hj:j<=175):∃t f,jh bD (Sum.inl p)=some (.ref t)/\KT K t [vN n,vN k,.ref f]/\Calls aV P w K mg f 175 sp:=by
 obtain⟨t,f,h1,h2,h3⟩:=R;obtain⟨g,h4,h5⟩:=c;have e:=gD h3 h4;subst e;exact⟨t,f,h1,h2,h5.mono hj⟩
theorem WY:∃aC bD,Vg P w K mg CC CF aC bD:=by
 obtain⟨aC,bD,nm,dic,r1,r2,r3,r4,r5,r6,r7,r8,r9,r10,r11,r12,r13,r14,r15⟩:=T.calls;refine⟨aC,bD,nm,dic,λp n k hs=>?_⟩;have hm:=DB hs;have key:∀x∈Xc,∃t f,jh bD (Sum.inl x.1)=some (.ref t)/\KT K t [vN x.2.1,vN x.2.2,.ref f]/\Calls aV P w K mg f 175 (b4 CC CF x.2.1 x.1 (clK x.2.2 x.1)):=by
  intro x hx;unfold Xc at hx;simp only [tE,List.not_mem_nil,or_false]at hx;rcases hx with rfl|rfl|rfl|rfl|rfl|rfl|rfl|rfl|rfl|rfl|rfl|rfl|rfl|rfl|rfl
  ·exact r1.go (De T) (by decide)
  ·exact r2.go (GX T) (by decide)
  ·exact r3.go (yy T) (by decide)
  ·exact r4.go (GW T) (by decide)
  ·exact r5.go (xl T) (by decide)
  ·exact r6.go (xk T) (by decide)
  ·exact r7.go (Df T) (by decide)
  ·exact r8.go (By T) (by decide)
  ·exact r9.go (Dg T) (by decide)
  ·exact r10.go (Dh T) (by decide)
  ·exact r11.go (Di T) (by decide)
  ·exact r12.go (Bx T) (by decide)
  ·exact r13.go (Dj T) (by decide)
  ·exact r14.go (Dd T) (by decide)
  ·exact r15.go (xj T) (by decide)
 exact key (p,n,k) hm
theorem Xb:∃f fd,Def K mg "answers" lX ["calls"] f fd/\∀base,aP P w K mg base aV 176 f fd ["calls"] (iE K):=by
 obtain⟨f,fd,D⟩:=T.ON;obtain⟨aC,bD,C⟩:=WY (P:=P) T;exact⟨f,fd,D,λbase=>Kn D.fn T.oA (Pb T) C T.pJ⟩
end
section
variable {f C N fI:Addr} {x q m:Str} {oc kV doc pm bG ct:Value} {od an:Option Addr} {DN:Array (Option Value)}
def BA(x q:Str)(st:Stmt)(ps:List Str):Prop:=∀(kV doc pm:Value) (an:Option Addr) (bG ct:Value) (us:List Value),us.length=ps.length->bindArgs (fnOf x q (ir st) (fX st) (ak st) .none kV doc pm an bG ct) ⟨us,[]⟩=pure (ps.zip us)
theorem Ga(b:BA x x st ps)(X:K.In h)(G:h.Ns mainGlobals mg)(a:nsIn K mainGlobals x=some (some (.ref f)))(l:K.lookup f=some ⟨oc,od,.func (fnOf x x (ir st) (fX st) (ak st) .none kV doc pm an bG ct),DN⟩)(c:PySem.W.codeIn K bG x=true)(k:keepIn K (.ref f)=true):DF K mg x st ps:=
 have F:=F0 (st:=st) l c k
 ⟨f,_,F,F.binds b,mg_of X G a⟩
theorem FH(b:BA m q st ps)(a:findIn K (.ref C) m=some (some (.ref f)))(i:PySem.W.isFn K (.ref f)=true)(l:K.lookup f=some ⟨oc,od,.func (fnOf m q (ir st) (fX st) (ak st) .none kV doc pm an bG ct),DN⟩)(c:PySem.W.codeIn K bG q=true)(k:keepIn K (.ref f)=true):MF K C m q st ps:=
 have F:=F0 (st:=st) l c k
 ⟨f,_,F,F.binds b,⟨a,i,k⟩⟩
theorem uS(b:BA "__init__" q st ps)(mk:PySem.W.makesIn K C=true)(a:findIn K (.ref C) "__init__"=some (some (.ref f)))(i:PySem.W.isFn K (.ref f)=true)(kc:keepIn K (.ref C)=true)(l:K.lookup f=some ⟨oc,od,.func (fnOf "__init__" q (ir st) (fX st) (ak st) .none kV doc pm an bG ct),DN⟩)(c:PySem.W.codeIn K bG q=true)(k:keepIn K (.ref f)=true):IF K C q st ps:=
 have F:=F0 (st:=st) l c k
 ⟨f,_,F,F.binds b,⟨mk,a,i,kc⟩⟩
theorem Mt{i:Int}(X:K.In h)(G:h.Ns mainGlobals mg)(a:nsIn K mainGlobals x=some (some (.int i t))):GI mg x i:=⟨t,mg_of X G a⟩
theorem Rh{its:List Value}(l:K.lookup a=some ⟨.type "tuple",od,.seq its.toArray n,DN⟩)(z:its.length<=sizeLine)(v:Vals xs its):KT K a xs:=⟨_,its.toArray,n,l,rfl,rfl,by simpa using z,by simpa using v⟩
end
theorem Yn{s k:Str}(h:s=k):RelV (.str k) (.str s t):=⟨t,by rw[h]⟩
section
theorem WJ(X:K.In h)(G:h.Ns mainGlobals mg)(a:nsIn K mainGlobals x=some (some (.str z t)))(e:z=z'):GS mg x z':=⟨t,by rw[mg_of X G a,e]⟩
theorem YK{f:Str}(a:findIn K (.ref C) f=some none):b_ K C f:=a
theorem W5(pg:PySem.W.plainGet K C Str.empty=true)(hd:PySem.W.hasDictIn K C=true)(po:PySem.W.plainOver K C=true)(sa:findIn K (.ref C) "__setattr__"=some (some (.builtin "object.__setattr__"))):G0 K C:=⟨pg,hd,po,sa⟩
theorem Eo{Q:Addr->Prop}(X:K.In h)(G:h.Ns mainGlobals mg)(n:nsIn K mainGlobals x=some (some (.ref a)))(q:Q a):∃a,mg x=some (.ref a)/\Q a:=⟨a,mg_of X G n,q⟩
def MT(w:World)(e:DictEntry)(p:Key×V):Prop:=AR p.1 e.key=true/\e.hash=YT w p.1/\RelV p.2 e.val
theorem iP{s k:Str}{i:Int}(e:s=k):MT w ⟨PyData.keyHash w.params s,.str s t,.int i u⟩ (.inr k,.int i):=by
 subst e;exact⟨by show(s==s)=true;exact beq_self_eq_true s,rfl,⟨_,rfl⟩⟩
theorem gK{i:Int}(e:i=hashInt i):MT w ⟨i,.int i t,.ref b⟩ (.inl i,.ref b):=⟨by show(i==i)=true;exact beq_self_eq_true i,e,rfl⟩
theorem ents{P:Program}:∀{es:List DictEntry} {bD:List (Key×V)},Paired (MT w) es bD->∃vs,KV bD vs/\Pairs (dZ P w) es vs/\vs.map (·.1)=bD.map (·.1)
 |_,_,.nil=>⟨[],.nil,.nil,rfl⟩
 |_,_,.cons (a:=e) (b:=p) h t=>by
  obtain⟨vs,h1,h2,h3⟩:=ents (P:=P) t;exact⟨(p.1,e.val)::vs,.cons ⟨rfl,h.2.2⟩ h1,.cons h.1 rfl h2,by rw[cz,cz,h3]⟩
theorem QK{α β:Type}{F:α->β->Prop}:∀{l:List α} {m:List β},Paired F l m->∀a∈l,∃b,F a b
 |_,_,.nil,a,h=>by cases h
 |_,_,.cons h t,a,hm=>by
  rcases List.mem_cons.mp hm with rfl|hm
  ·exact⟨_,h⟩
  ·exact QK t a hm
theorem uP{es:List DictEntry}(l:K.lookup a=some ⟨.type "dict",none,.dict es.toArray ep, #[]⟩)(hs:(a==sysModules)=false)(hp:Paired (MT w) es bD)(nd:(bD.map (·.1)).Nodup):jg K w a bD:=by
 intro P h X;obtain⟨vs,h1,h2,h3⟩:=ents (P:=P) hp;refine⟨hs,vs,h1,_,es.toArray,ep,X _ _ l,⟨rfl,rfl,rfl⟩,rfl,λe he=>?_,by simpa using h2,by rw[h3];exact nd⟩;obtain⟨p,q1,q2,_⟩:=QK hp e (by simpa using he);exact⟨p.1,q1,q2⟩
def SKL(l:List DictEntry):Prop:=∀e∈l,∃n t,e.key= .str n t
theorem S6:SKL []:=λe h=>by cases h
theorem lU{x:Int}{n:Str}{v:Value}{l:List DictEntry}(h:SKL l):SKL (⟨x,.str n t,v⟩::l):=λe he=>by
 rcases List.mem_cons.mp he with rfl|he
 ·exact⟨n,t,rfl⟩
 ·exact h e he
theorem WS{sub:List Value}{es:List DictEntry}{kV:Value}(b:BA "__init__" "CannotGoOn.__init__" bK ["self","place"])(X:K.In h)(G:h.Ns mainGlobals mg)
  (n:nsIn K mainGlobals "CannotGoOn"=some (some (.ref C))) (lC:K.lookup C=some (excClassObj nm q C N bs WV true sn sub ab col dd k0 k1 k2 k3 k5 "Exception.__new__")) (lN:K.lookup N=some ⟨oc',od',.dict es.toArray ep,Xh⟩) (sk:SKL es)
  (a1:nsIn K N "__init__"=some (some (.ref fI))) (a2:nsIn K N "__setattr__"=some none) (a3:nsIn K N "place"=some none) (a4:nsIn K N "__getattribute__"=some none) (a5:nsIn K N "__getattr__"=some none)
  (l:K.lookup fI=some ⟨.type "function",od,.func (fnOf "__init__" "CannotGoOn.__init__" (ir bK) (fX bK) (ak bK) .none kV doc pm an bG ct),DN⟩) (c:PySem.W.codeIn K bG "CannotGoOn.__init__"=true) (k:keepIn K (.ref fI)=true) (kc:keepIn K (.ref C)=true):
  Bq K mg C N fI (fnOf "__init__" "CannotGoOn.__init__" (ir bK) (fX bK) (ak bK) .none kV doc pm an bG ct):=by
 have F:=F0 (st:=bK) l c k;refine⟨λh' X'=>?_,F,F.binds b,kc,mg_of X G n⟩;have ns:h'.Ns N (nsFind es.toArray):=⟨_,es.toArray,ep,X' _ _ lN,rfl,λe he=>sk e (by simpa using he),λ_=>rfl⟩;have nn:∀{x:Str},nsIn K N x=some none->nsFind es.toArray x=none:=λe=>by
  obtain⟨o,es',ep',ho,hd,_,hf⟩:=ns;unfold nsIn at e;rw[lN]at e;dsimp only at e;split at e
  ·cases e
  ·rename_i he;unfold nsFind findBy;rw[<-Array.find?_toList,he];rfl
 have nv:∀{x:Str} {v:Value},nsIn K N x=some (some v)->nsFind es.toArray x=some v:=λe=>by
  unfold nsIn at e;rw[lN]at e;dsimp only at e;split at e
  ·rename_i en he;cases e;unfold nsFind findBy;rw[<-Array.find?_toList,he];rfl
  ·split at e<;>cases e
 exact⟨⟨nm,q,bs,sn,sub,ab,col,dd,k0,k1,k2,k3,k5,X' _ _ lC⟩,⟨_,ns,nv a1,nn a2,nn a3,nn a4,nn a5⟩,⟨_,X' _ _ l,rfl⟩⟩
theorem Ym{p:Int}(X:K.In h)(G:h.Ns mainGlobals mg)(v:jh bD (Sum.inl p)=some (.ref t))(kt:KT K t [vN n,vN k,.ref f])(a:nsIn K mainGlobals x=some (some (.ref f))):RF K mg bD p n k x:=⟨t,f,v,kt,mg_of X G a⟩
theorem VE{a:Tok}(l:K.lookup t=some ⟨.type "tuple",od,.seq #[.int (n:Int) a,.int (k:Int) b,.ref f] m,DN⟩):KT K t [vN n,vN k,.ref f]:=⟨_,_,m,l,rfl,rfl,by show 3<=sizeLine;decide,.cons ⟨_,rfl⟩ (.cons ⟨_,rfl⟩ (.cons rfl .nil))⟩
theorem XJ{ns:List Str}{fs:List Addr}(X:K.In h)(G:h.Ns mainGlobals mg)(a:nsIn K mainGlobals x=some (some (.ref t)))(l:K.lookup t=some ⟨.type "tuple",od,.seq (fs.map Value.ref).toArray m,DN⟩)(z:fs.length<=1000)
  (e:fs.map (λf=>some (Value.ref f))=ns.map mg):TF K mg x ns:=by
 refine⟨t,fs,mg_of X G a,⟨_,_,m,l,rfl,rfl,by simp;exact qj (Dz z),?_⟩,e⟩;have:∀fs:List Addr,Vals (fs.map V.ref) (fs.map Value.ref):=λfs=>by
  induction fs with
  |nil=>exact .nil
  |cons f fs ih=>exact .cons rfl ih
 simpa using this fs
end
theorem O5:BA "answers" "answers" lX ["calls"]:=λ_ _ _ _ _ _ us hl=>match us,hl with|[_],_=>rfl
theorem Vi{CE:Addr}(Wv:mg "answers"=some (.ref fa))(cT:nsIn K mainGlobals "Token"=some (some (.ref CT)))(cP:nsIn K mainGlobals "Piece"=some (some (.ref CP)))(cR:nsIn K mainGlobals "Reader"=some (some (.ref CR)))
  (cF:nsIn K mainGlobals "Frame"=some (some (.ref CF))) (cC:nsIn K mainGlobals "Capture"=some (some (.ref CC))) (x:Bq K mg CE N fI jD) (T:Bq K mg CE N fI jD->Top w K mg CT CP CR CF CC CE N fI jD):
  ∃fd:FuncData,(∀(s:Shared) (us:List Value),us.length=(["calls"]:List Str).length->BindsTo s fd ⟨us,[]⟩ ((["calls"]:List Str).zip us))/\∀base:Heap,K.In base->base.Ns mainGlobals mg->aP P w K mg base aV 176 fa fd ["calls"] (iE K):=by
 obtain⟨f,fd,D,F⟩:=Xb (P:=P) (T x);have e:=gD Wv D.nm;subst e;refine⟨fd,λs us hu=>?_,λbase _ _=>F base⟩;obtain⟨oc,od,kV,doc,pm,an,bG,ct,DN,rfl,_⟩:=D.fn.ex;exact .of_eq (O5 kV doc pm an bG ct us hu)
section
def FL(mg:Str->Option Value)(ns:List Str)(its:List Value):Prop:=∃fs:List Addr,its=fs.map Value.ref/\fs.map (λf=>some (Value.ref f))=ns.map mg
theorem RJ:FL mg [] []:=⟨[],rfl,rfl⟩
theorem fU(X:K.In h)(G:h.Ns mainGlobals mg)(a:nsIn K mainGlobals x=some (some (.ref f)))(t:FL mg ns its):FL mg (x::ns) (.ref f::its):=by
 obtain⟨fs,e1,e2⟩:=t;exact⟨f::fs,by rw[e1];rfl,by rw[cz,cz,e2,mg_of X G a]⟩
theorem PY{its:List Value}(X:K.In h)(G:h.Ns mainGlobals mg)(a:nsIn K mainGlobals x=some (some (.ref t)))(l:K.lookup t=some ⟨.type "tuple",od,.seq its.toArray m,DN⟩)(z:its.length<=1000)
  (e:FL mg ns its):TF K mg x ns:=by
 obtain⟨fs,rfl,e2⟩:=e;exact XJ X G a l (by simpa using z) e2
theorem W_{R:List (Key×V)->Prop}(X:K.In h)(G:h.Ns mainGlobals mg)(n:nsIn K mainGlobals x=some (some (.ref a)))(k:jg K w a bD)(r:R bD):∃a bD,mg x=some (.ref a)/\jg K w a bD/\R bD:=⟨a,bD,mg_of X G n,k,r⟩
end
section
variable {x q:Str}
abbrev BG(x q:Str)(st:Stmt)(ps:List Str)(us:List Value):Prop:=∀(kV doc pm:Value) (an:Option Addr) (bG ct:Value),bindArgs (fnOf x q (ir st) (fX st) (ak st) .none kV doc pm an bG ct) ⟨us,[]⟩=pure (ps.zip us)
@[elab_as_elim] theorem Xn{P:List Value->Prop}(us:List Value)(hl:us.length=([]:List Str).length)(h:P []):P us:=by
 cases us with
 |nil=>exact h
 |cons _ _=>cases hl
@[elab_as_elim] theorem lcs{p:Str}{ps:List Str}{P:List Value->Prop}(us:List Value)(hl:us.length=(p::ps).length)(h:∀a r,r.length=ps.length->P (a::r)):P us:=by
 cases us with
 |nil=>cases hl
 |cons a r=>exact h a r (Nat.succ.inj hl)
theorem ba0(h:BG x q st [] []):BA x q st []:=λk d p a c t us hl=>Xn us hl (h k d p a c t)
theorem ba1(h:∀u0,BG x q st [p0] [u0]):BA x q st [p0]:=λk d p a c t us hl=>lcs us hl λu0 us hl=>Xn us hl (h u0 k d p a c t)
theorem ba2(h:∀u0 u1,BG x q st [p0,p1] [u0,u1]):BA x q st [p0,p1]:=λk d p a c t us hl=>lcs us hl λu0 us hl=>lcs us hl λu1 us hl=>Xn us hl (h u0 u1 k d p a c t)
theorem ba3(h:∀u0 u1 u2,BG x q st [p0,p1,p2] [u0,u1,u2]):BA x q st [p0,p1,p2]:=λk d p a c t us hl=>lcs us hl λu0 us hl=>lcs us hl λu1 us hl=>lcs us hl λu2 us hl=>Xn us hl (h u0 u1 u2 k d p a c t)
theorem ba4(h:∀u0 u1 u2 u3,BG x q st [p0,p1,p2,p3] [u0,u1,u2,u3]):BA x q st [p0,p1,p2,p3]:=λk d p a c t us hl=>lcs us hl λu0 us hl=>lcs us hl λu1 us hl=>lcs us hl λu2 us hl=>lcs us hl λu3 us hl=>Xn us hl (h u0 u1 u2 u3 k d p a c t)
theorem ba6(h:∀u0 u1 u2 u3 u4 u5,BG x q st [p0,p1,p2,p3,p4,p5] [u0,u1,u2,u3,u4,u5]):BA x q st [p0,p1,p2,p3,p4,p5]:=λk d p a c t us hl=>lcs us hl λu0 us hl=>lcs us hl λu1 us hl=>lcs us hl λu2 us hl=>lcs us hl λu3 us hl=>lcs us hl λu4 us hl=>lcs us hl λu5 us hl=>Xn us hl (h u0 u1 u2 u3 u4 u5 k d p a c t)
end
theorem S4(K:Frag)(H:Hp)(xs:List V)(a:Codec.denoteAll PySem.Challenge.rw_framekeep_s01_answers.args)(WG:Codec.app PySem.Challenge.rw_framekeep_s01_answers.args PySem.Challenge.rw_framekeep_s01_answers.asked a=true)(hx:mj K H xs (Codec.encAll PySem.Challenge.rw_framekeep_s01_answers.args a)):iE K xs H (λv H'=>Dw K H' v (PySem.Challenge.rw_framekeep_s01_answers.ret.enc (Codec.app PySem.Challenge.rw_framekeep_s01_answers.args PySem.Challenge.rw_framekeep_s01_answers.f a))) λ_ _ _=>False:=by
 cases hx with
 |cons h1 h2=>
  cases h2;cases h1 with
  |lst hs ha=>
   have e:=Mo a.1 _ ha;subst e;exact⟨_,a.1,rfl,hs,WG,λH' p hp=>.lst (bp.of hp) (MC _)⟩
end Fk
namespace Fk
open PySem PySem.W PyProof.Rows
set_option maxHeartbeats 0
example:(λ(_:OpenSpec) (_:Params->Frag)=>True) PySem.Challenge.rw_framekeep_s01_answers Hd.KK:=by
 k_fillS
 trivial
theorem Oo(P:Program)(w:World)(h:Heap)(mg:Str->Option Value)(fa:Addr)(KX:(Hd.KK w.params).In h)(G:h.Ns mainGlobals mg)(Wv:mg "answers"=some (.ref fa)):∃fd:FuncData,(∀(s:Shared) (us:List Value),us.length=(["calls"]:List Str).length->BindsTo s fd ⟨us,[]⟩ ((["calls"]:List Str).zip us))/\∀base:Heap,(Hd.KK w.params).In base->base.Ns mainGlobals mg->L2.aP P w (Hd.KK w.params) mg base L2.aV 176 fa fd ["calls"] (iE (Hd.KK w.params)):=by
 refine' Vi (fa:=fa) Wv ?cT ?cP ?cR ?cF ?cC ?x ?T
 (case cT|cP|cR|cF|cC=>k_is)
 (case x=>refine' WS ?b KX G ?n ?lC ?lN ?sk ?a1 ?a2 ?a3 ?a4 ?a5 ?l ?c ?k ?kc;(case n|lC|lN=>k_is);(case sk=>exact lU (lU (lU (lU (lU (lU (S6)))))));(case a1|a2|a3|a4|a5|l|c|k|kc=>k_is);(case b=>exact ba2 λ_ _ _ _ _ _ _ _=>rfl))
 intro x;refine' Top.mk ?y0 ?y1 ?y2 ?y3 ?y4 ?y5 ?y6 ?y7 ?y8 ?y9 ?y10 ?y11 ?y12 ?y13 ?y14 ?y15 ?y16 ?y17 ?y18 ?y19 ?y20 ?y21 ?y22 ?y23 ?y24 ?y25 ?y26 ?y27 ?y28 ?y29 ?y30 ?y31 ?y32 ?y33 ?y34 ?y35 ?y36 ?y37 ?y38 ?y39 ?y40 ?y41 ?y42 ?y43 ?y44 ?y45 ?y46 ?y47 ?y48 ?y49 ?y50 ?y51 ?y52 ?y53 ?y54 ?y55 ?y56 ?y57 ?y58 ?y59 ?y60 ?y61 ?y62 ?y63 ?y64 ?y65 ?y66 ?y67 ?y68 ?y69 ?y70 ?y71 ?y72 ?y73 ?y74 ?y75 ?y76 ?y77 ?y78 ?y79 ?y80 ?y81 ?y82 ?y83 ?y84 ?y85 ?y86 ?y87 ?y88 ?y89 ?y90 ?y91 ?y92 ?y93 ?y94 ?y95 ?y96 ?y97 ?y98 ?y99 ?abb ?aba ?aa9 ?aa8 ?aa7 ?aa6 ?aa5 ?aa4 ?aa3 ?aa2 ?aa1 ?aa0 ?aaZ ?aaY ?aaX ?aaW ?aaV ?aaU ?aaT ?aaS ?aaR ?aaQ ?aaP ?aaO ?aaN ?aaM ?aaL ?aaK ?aaJ ?aaI ?aaH ?aaG ?aaF ?aaE ?aaD ?aaC ?aaB ?aaA ?aaz ?aay ?aax ?aaw ?aav ?aau ?aat ?aas ?aar ?aaq ?aap ?aao ?aan ?aam ?aal ?aak ?aaj ?aai ?aah ?aag ?aaf ?aae ?aad ?aac ?aab
 (case y0|y4|y7|y10|y11|y12|y13|y14|y15|y30|y33|y34|y36|y38|y39|y41|y47|y51|y52|y53|y54|y55|y56|y57|y58|y59|y60|y61|y66|y82=>refine' Ga ?b KX G ?a ?l ?c ?k;(case a|l|c|k=>k_is);(case b=>exact ba1 λ_ _ _ _ _ _ _=>rfl))
 (case y1|y3|y5|y8|y9|y16|y17|y18|y19|y20|y21|y22|y23|y24|y25|y26|y27|y28|y29|y35|y37|y40|y43|y44|y48|y49|y62|y64=>refine' Ga ?b KX G ?a ?l ?c ?k;(case a|l|c|k=>k_is);(case b=>exact ba2 λ_ _ _ _ _ _ _ _=>rfl))
 (case y2|y6|y31|y32|y45|y46|y50|y63|y65|y67|y68|y69|y70|y71|y72|y73|y74|y75|y76|y77|y78|y79|y80|y81=>refine' Ga ?b KX G ?a ?l ?c ?k;(case a|l|c|k=>k_is);(case b=>exact ba3 λ_ _ _ _ _ _ _ _ _=>rfl))
 (case y42=>refine' Ga ?b KX G ?a ?l ?c ?k;(case a|l|c|k=>k_is);(case b=>exact ba0 λ_ _ _ _ _ _=>rfl))
 (case y83=>refine' uS ?b ?mk ?a ?i ?kc ?l ?c ?k;(case mk|a|i|kc|l|c|k=>k_is);(case b=>exact ba6 λ_ _ _ _ _ _ _ _ _ _ _ _=>rfl))
 (case y84|y89|y90|y92|y99|abb|aaX=>refine' FH ?b ?a ?i ?l ?c ?k;(case a|i|l|c|k=>k_is);(case b=>exact ba1 λ_ _ _ _ _ _ _=>rfl))
 (case y85|y91|y93|y98|aba|aa9|aa7|aa6|aa4|aa3|aa1|aaZ|aaY|aaW=>refine' FH ?b ?a ?i ?l ?c ?k;(case a|i|l|c|k=>k_is);(case b=>exact ba2 λ_ _ _ _ _ _ _ _=>rfl))
 (case y86=>refine' uS ?b ?mk ?a ?i ?kc ?l ?c ?k;(case mk|a|i|kc|l|c|k=>k_is);(case b=>exact ba4 λ_ _ _ _ _ _ _ _ _ _=>rfl))
 (case y87=>refine' uS ?b ?mk ?a ?i ?kc ?l ?c ?k;(case mk|a|i|kc|l|c|k=>k_is);(case b=>exact ba3 λ_ _ _ _ _ _ _ _ _=>rfl))
 (case y88=>refine' uS ?b ?mk ?a ?i ?kc ?l ?c ?k;(case mk|a|i|kc|l|c|k=>k_is);(case b=>exact ba2 λ_ _ _ _ _ _ _ _=>rfl))
 (case y94=>refine' uS ?b ?mk ?a ?i ?kc ?l ?c ?k;(case mk|a|i|kc|l|c|k=>k_is);(case b=>exact ba1 λ_ _ _ _ _ _ _=>rfl))
 (case y95|y97|aa0=>refine' FH ?b ?a ?i ?l ?c ?k;(case a|i|l|c|k=>k_is);(case b=>exact ba4 λ_ _ _ _ _ _ _ _ _ _=>rfl))
 (case y96|aa8|aa5|aa2=>refine' FH ?b ?a ?i ?l ?c ?k;(case a|i|l|c|k=>k_is);(case b=>exact ba3 λ_ _ _ _ _ _ _ _ _=>rfl))
 (case aaV|aaU|aaT|aaS|aaR|aaQ|aaP|aaO|aaN=>refine' PySem.W.mg_none_of KX G ?a;(case a=>k_is))
 (case aaM|aaK|aaI=>constructor<;>first|(refine' Mt KX G ?a;(case a=>k_is))|(refine' PySem.W.mg_none_of KX G ?a;(case a=>k_is)))
 (case aaL=>constructor<;>first|(refine' Mt KX G ?a;(case a=>k_is))|(refine' Eo KX G ?a ?q;(case a=>k_is);(case q=>refine' Rh ?l ?z ?v;(case l=>k_is);(case z=>decide +kernel);(case v=>repeat first|exact .nil|refine .cons (⟨_,rfl⟩) ?_))))
 (case aaJ=>constructor<;>first|(refine' Mt KX G ?a;(case a=>k_is))|(refine' PySem.W.mg_none_of KX G ?a;(case a=>k_is))|(refine' Eo KX G ?a ?q;(case a=>k_is);(case q=>refine' Rh ?l ?z ?v;(case l=>k_is);(case z=>decide +kernel);(case v=>repeat first|exact .nil|refine .cons (⟨_,rfl⟩) ?_))))
 (case aaC=>exact x)
 (case aaB|aaA|aaz|aay|aax|aaw|aav|aau|aat|aas|aar=>refine' Mt KX G ?a;(case a=>k_is))
 (case aaq|aap|aao|aan|aam|aal|aak|aaj=>refine' WJ KX G ?a ?e;(case a=>k_is);(case e=>decide +kernel))
 (case aai|aah=>refine' Eo KX G ?a ?q;(case a=>k_is);(case q=>refine' Rh ?l ?z ?v;(case l=>k_is);(case z=>decide +kernel);(case v=>repeat first|exact .nil|refine .cons (Yn (by decide +kernel)) ?_)))
 (case aag=>refine' PY KX G ?a ?l ?z ?f;(case a|l=>k_is);(case z=>decide +kernel);(case f=>exact fU KX G (by k_is) (fU KX G (by k_is) (fU KX G (by k_is) (fU KX G (by k_is) (fU KX G (by k_is) (fU KX G (by k_is) (fU KX G (by k_is) (RJ)))))))))
 (case aaf=>refine' PY KX G ?a ?l ?z ?f;(case a|l=>k_is);(case z=>decide +kernel);(case f=>exact fU KX G (by k_is) (fU KX G (by k_is) (fU KX G (by k_is) (fU KX G (by k_is) (fU KX G (by k_is) (fU KX G (by k_is) (RJ))))))))
 (case aae=>refine' Eo KX G ?a ?q;(case a=>k_is);(case q=>refine' uP ?l ?s ?p ?n;(case l=>k_is);(case s=>decide +kernel);(case p=>exact .cons (iP (i:=3) (by decide +kernel)) (.cons (iP (i:=4) (by decide +kernel)) (.cons (iP (i:=5) (by decide +kernel)) (.cons (iP (i:=6) (by decide +kernel)) (.nil)))));(case n=>decide +kernel)))
 (case aad=>refine' Eo KX G ?a ?q;(case a=>k_is);(case q=>refine' uP ?l ?s ?p ?n;(case l=>k_is);(case s=>decide +kernel);(case p=>exact .cons (iP (i:=0) (by decide +kernel)) (.cons (iP (i:=1) (by decide +kernel)) (.cons (iP (i:=2) (by decide +kernel)) (.nil))));(case n=>decide +kernel)))
 (case aac=>refine' Eo KX G ?a ?q;(case a=>k_is);(case q=>refine' uP ?l ?s ?p ?n;(case l=>k_is);(case s=>decide +kernel);(case p=>exact .cons (iP (i:=0) (by decide +kernel)) (.cons (iP (i:=1) (by decide +kernel)) (.cons (iP (i:=2) (by decide +kernel)) (.cons (iP (i:=3) (by decide +kernel)) (.cons (iP (i:=4) (by decide +kernel)) (.cons (iP (i:=5) (by decide +kernel)) (.nil)))))));(case n=>decide +kernel)))
 (case aab=>refine' W_ KX G ?m ?k ?r;(case m=>k_is);(case k=>refine' uP ?l ?s ?p ?n;(case l=>k_is);(case s=>decide +kernel);(case p=>exact .cons (gK (by decide +kernel)) (.cons (gK (by decide +kernel)) (.cons (gK (by decide +kernel)) (.cons (gK (by decide +kernel)) (.cons (gK (by decide +kernel)) (.cons (gK (by decide +kernel)) (.cons (gK (by decide +kernel)) (.cons (gK (by decide +kernel)) (.cons (gK (by decide +kernel)) (.cons (gK (by decide +kernel)) (.cons (gK (by decide +kernel)) (.cons (gK (by decide +kernel)) (.cons (gK (by decide +kernel)) (.cons (gK (by decide +kernel)) (.cons (gK (by decide +kernel)) (.nil))))))))))))))));(case n=>decide +kernel));(case r=>refine⟨?_,?_,?_,?_,?_,?_,?_,?_,?_,?_,?_,?_,?_,?_,?_⟩<;>(refine' Ym KX G ?v ?t ?a;(case v=>rfl);(case t=>refine' VE ?l;(case l=>k_is));(case a=>k_is))))
 (case aaH|aaF|aaG|aaE|aaD=>constructor<;>first|(refine' YK ?a;(case a=>k_is))|(refine' PySem.W.mg_of KX G ?a;(case a=>k_is))|(refine' W5 ?c1 ?c2 ?c3 ?c4;(case c1|c2|c3|c4=>k_is)))
end Fk
theorem PySem.Challenge.cw_framekeep_s01_answers_holds : PySem.Challenge.rw_framekeep_s01_answers.Holds := by
 refine Hd.hdO (by rfl) (by rfl) (by rfl) ?_;exact L2.JK (r:=Hd.R) (k:=176) (CX:=L2.aV) (ps:=["calls"]) (sp:=Fk.iE) Hd.ws rfl rfl ⟨rfl,by decide,by decide⟩ (λw h Y=>Y) (λw mg fa h Y KX G Wv=>Fk.Oo _ w h mg fa KX G Wv) (λK H xs a _ _ u v=>Fk.S4 K H xs a u v) (λ_ _ _ _ z=>z)
