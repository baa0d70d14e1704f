import PyProof.Rows.All
import Wide.All
import OpenK.AllK
import Wide.FinOn
import PyProof.EqAt
import PyProof.EqKinds
import PyProof.TupleCall
import KE.BitLaws
import Open.SpecLaws
import KE.OsHead
import KE.OsGo
import PySem.Challenge.RW_roundchains_s01_answers
set_option Elab.async false
set_option linter.all false
set_option maxRecDepth 100000
set_option maxHeartbeats 0
set_option exponentiation.threshold 20000
set_option compiler.extract_closed false
set_option genSizeOf false
theorem mf.said:PySem.Challenge.rw_roundchains_s01_answers.wellSaid=true:=by decide+kernel
structure PySem.W.Fast:Prop where
 (tw2868137219827341711 tw14024398297919621593 tw6053568887207862884 tw14490127304119587823 tw12334567719517358521 tw4468317069639694151 tw16482668332116719309 tw12434217257486807235 tw6353626054193403527 tw10633532765306378147 tw3756710443575938729 tw4114675669402676551 tw12389228152690027559 tw12543246529676722236 tw3329573524516545344 tw3215785638971017751 tw12580630500858015190 tw255075224273284826 tw4093890490609444790 tw13792750663724471580 tw17255862611831641611 tw14356606336350154398 tw14961508710300739582 tw5987240837903305207 tw11923646676510574765 tw10138928080095924156 tw6669637016587956254 tw4159127371939771407 tw3568976890632121302 tw14097901254548822079 tw9299170691119742069 tw7115329963248153016 tw4413022062167165213 tw18285034396157771515 tw9500756386515736983 tw6786869096558962098 tw6866772801002642330 tw5310848642536407941 tw7263938656086917828 tw13498957554749862337 tw8059240593446808847 tw13836053066838879771 tw14045696671874922005 tw8636570128806063682 tw18406600007610368000 tw8896890449407585339 tw15911385569465718405 tw6207729225966694430 tw15308595026830315335 tw6483112986335349807 tw17833036846215257677 tw6609551867383363823 tw3162515314503590710 tw8305421803096863202 tw15209785402889638347 tw7555574970989946726 tw540248256023721609 tw4264587943940205051 tw1506252478681065541 tw4877119309676206003 tw973418402434435473 tw5593583848542575496 tw17366483908993452237 tw11808764197457244582 tw11827506727958261175 tw16683522431508973010 tw10306617312302409678 tw15693690533555310053 tw14758037380059939473 tw16028312298890252440 tw13766890929068508089 tw7708288598881765714 tw6533327799574768298 tw16407089049519552983 tw6033124687032281 tw15049915579882222966 tw12200471046663199471 tw6759341916555881528 tw10019087894139307675 tw17351099930950889309 tw10526450278244441347 tw8461792390437251298 tw11156683105376371472 tw8324307204058524064 tw252108771644605061 tw9591131857482088790 tw621280365857966615 tw9456907927593901006 tw3690516521167476754 tw12777454570105695111 tw1493195895237328973 tw5152021556161596733 tw10650521019632156004 tw11251374700153003639 tw16760214367346774168 tw8932548307594498882 tw15927544388005783578 tw863340437435418622 tw12735879020482707386 tw4241056407858256597 tw6819314147748056611 tw1573883241084570941 tw13474584273238596179 tw4252253213113263801 tw15860339137294220441 tw15370591718790868633 tw8292425516249759547 tw7998882145499527291 tw17190665863326462736 tw12773479580593906246 tw14874196471377028893 tw9469602951429696367 tw4985834722488350058 tw3295798642800528026 tw9123758391413944447 tw14722741845111245263 tw14080317841664900947 tw17339138006498558498 tw8948394456235634372 tw380826599791649297 tw8951839539606988355 tw3844435602250123641 tw1500561705435518011 tw6685873950768423580 tw9061474751165714152 tw5615041290372728251 tw2104294166004580511 tw4324288865265091127 tw4602413987934683749 tw6672248324539019119 tw106543367940676202 tw9513767766411311609 tw14145223601809794483 tw18005391507109749861 tw8578183088252433100 tw3854841386772124976 tw5597051918425609742 tw13044712297643904012 tw2468065672296885463 tw7904569135460812590 tw15597069829042662711 tw10812323210790656532 tw1187621738648859521 tw15047622715211203024 tw6831945124895146368 tw4742491012637022227 tw5259204414680750537 tw5052846938505439146 tw5086612394391642992 tw6191114451790974895 tw12899950670419690754 tw13825469713052403734 tw7670589895203997989 tw13378283197846590928 tw8142723760897086659 tw16259447563988516806 tw4708241852567287417 tw12883226717174072929 tw12583791730926513808 tw9903010216293067537 tw11495506725180019408 tw7737905082652912081 tw9359122452113194921 tw14801762871760416366 tw1266551375814185321 tw14214416235196880344 tw15865490133536007059 tw8240843510282647560 tw13396826396750599733 tw10954376226628190900 tw3646038578455805271 tw17974605431130313553 tw7417652268164059181 tw13870231644707604045 tw10588404926960905144 tw3234516348037348279 tw3754205917495932224 tw11708839101957030407 tw13350828041569352244 tw2186842475596304971 tw8794516610323441115 tw12191218437007308758 tw15273810969346509780 tw15202816786391671278 tw12751941453178770398 tw16014238922788342806 tw18113783616366871091 tw9818848077531319480 tw4735068258870603519 tw18153721288530366670 tw11187395195528496603 tw12126580203270801410 tw8121355058128372969 tw13548006444541001407 tw7810909630956740902 tw11923419005228384365 tw7862953746434722166 tw3895580762173889089 tw12911438298341300125 tw6953267851220355128 tw1357281999493826634 tw14442742896125996549 tw213432576146937109 tw12699526476076621100 tw4958151472764134749 tw10134868458939829321 tw7760037230758435819 tw9656318578867998891 tw7503902571927669762 tw4510978824577643225 tw9436797506925631088 tw8126881620730543267 tw9860565659088042024 tw15298059634513827177 tw9317936309467011734 tw14430724029123738332 tw682118853340491869 tw15125249793092713167 tw13703042278254085864 tw5644102173096833478 tw7052487374083455452 tw7159733625132247410 tw3901213565586965361 tw11715771771521356290 tw17262052388350955043 tw16452215517621840907 tw8888110830457044029 tw5177695772638925440 tw11732770032957261708 tw11051674674849204283 tw483711643771881099 tw13060513085663265841 tw13483142972191785043 tw4400863987336454217 tw8291294473425868010 tw1131947718004389158 tw13663277149889588555 tw14844654170374437369 tw9487412729115586208 tw8664871431851746246 tw16943130553671534748 tw8295943854772216892 tw4389081625409766531 tw4389886886427072020 tw9769508752530027236 tw9267014208285683213 tw9137536700419391921 tw10832372714902493594 tw17002577050919704778 tw13553871779866741845 tw17574924007504898019 tw10735498157041466061 tw810647981147242178 tw17523141691240183947 tw10010073308102505051 tw8012998772636118646 tw8726136223719687720 tw8461927162731231343 tw6006807965735522341 tw5043737357333898475 tw8289436998967072545 tw12663925790667996908 tw1345792017917039907 tw7895275014588489074 tw883907517961383792 tw2961542476557405831 tw2717855910545709703 tw6646882683641204057 tw16566882934224080644 tw1087128724078904015 tw15283301404515922450 tw16118996816318750132 tw4215102954309214178 tw2464449550956264604 tw5005979829156208815 tw8444485474815169660 tw4114148492026875149 tw745926111877714458 tw18440568531491829423 tw4036490517421391878 tw11052488066400444452 tw7487302223311245700 tw8413391878146868540 tw17028717870282453097 tw9396419046659848150 tw17122213405820777008 tw3538701226070674838 tw13364765494720468238 tw3493361814782092826 tw16851073150926621974 tw15852167397033561657 tw15177959785585721241 tw5638329997135512525 tw9336697804763845932 tw16153046544919026742 tw5741153342553202120 tw7119576676478367563 tw5130293328509025836 tw14676607702438317844 tw13894586006754617341 tw5700969759706938089 tw13292013771139765190 tw7084139295007972682 tw5157552696760041799 tw5528821492158550217 tw16614997268779884555 tw15533979932203709764 tw2066304673930963039 tw8663147353934462694 tw5863851801912256283 tw4792508455614816754 tw3460458535636920243 tw8642055099742594994 tw5152740816153638336 tw15068379406485117817 tw9601002101685675069 tw202171614098908979 tw15471318852486478742 tw12684302315896449732 tw9106200828812363310 tw3866017361861639155 tw4091119609216972347 tw7679704805502959970 tw13785016668194262028 tw2479835190358809266 tw4967787581537136935 tw11002232311978111014 tw9873085400873918191 tw13347253865439198582 tw16823576797569208563 tw8033587338413724231 tw13327665000857945201 tw10986212402417830885 tw14949462213929911756 tw4530528295178419888 tw1482695049498009406 tw3769252551748676376 tw4345496616034317364 tw15935862513181395721 tw5472043246123732619 tw9406376797125854067 tw18427472382667497374 tw8243466364274790884 tw14329543792511327381 tw11029378334739412446 tw14141145716924045246 tw11557597321514647845 tw10250495515012877567 tw17208918460215868521 tw17660728350353499756 tw11632726704811854868 tw9388179374915332667 tw2974222543021044619 tw13707222300890023786 tw3889677216561216627 tw13352014032445331316 tw10929504633239848314 tw15388896823048830442 tw4591616616273747517 tw3765273594959443573 tw5145408768198095807 tw4200517277410706507 tw16122673314541238948 tw8051175819202115056 tw13768022111668724869 tw5566982432910229779 tw15231123294709006171 tw4720775224778092105 tw17370732785990738590 tw9011261684028344089 tw6805731705087572795 tw16842660029820300705 tw16670945581419292391 tw13673109795464662317 tw5427054149151053078 tw5626402333611626420 tw563508489551981243 tw16213540329292395176 tw4850474363754552651 tw14068054285291624666 tw13499675921429206125 tw11989061177273105421 tw903655537064588027 tw4776706701715303904 tw3456758318330234548 tw1526997846150248065 tw10348355830759460432 tw45587561405241109 tw1690144005357649866 tw8813971360865096443 tw17274286001498734380 tw17642445903730212635 tw13842364115333480350 tw3124444810931231172 tw13850328430680252702 tw4361016846027468794 tw8353665260407074182 tw17145508476384961747 tw10069862869844900023 tw17917690327834120045 tw14311894614199020798 tw17127468603185023309 tw15408865682606801487 tw13959359889007732044 tw10425472484349666070 tw8642508482425333073 tw5014309037670245201 tw2142012969181319011 tw13959845177094852678 tw6907198427832384120 tw8948960915192142683 tw18069520031677617219 tw14412199491748133498 tw16475146279548879527 tw2173329444638417101 tw3181263768780339815 tw1738568732085095695 tw1550853299626839656 tw12536439587641951427 tw107644113097508519 tw12694839693287152077 tw5598960901190125371 tw682572981831288490 tw5823429658887984978 tw4100524370107839589 tw3801424526683123953 tw3429919811225855841 tw16919035316177470104 tw10443887572942567436 tw638808630973557009 tw7262949616696045320 tw3223256579968905510 tw17475433297588556566 tw16664972948263060029 tw4962163642110340596 tw7876568493661808101 tw6541493976484494980 tw3779278523833752615 tw16984502055234869441 tw15348599018015436479 tw12902241140222244588 tw12264541275955651846 tw10658257930439395680 tw15926186682518934942 tw3204289635591144404 tw2968050660119418851 tw2630197155515772032 tw1922957909683347511 tw1672430352343407147 tw16146149416902632692 tw13641554772613938282 tw13765453626783549597 tw12531458104183845461 tw13050883349275636612 tw1209302167439636750 tw14802760060910291892 tw3296021257687379597 tw651960211123780992 tw10136647566709890770 tw34973819011298372 tw2642731205832651110 tw17998083118370009732 tw17047305155303337922 tw16909877014371640194 tw10265746951529999178 tw5348769351194291148 tw918514044541802279 tw4896991943567978086 tw13496966312019270623 tw1802714936701982568 tw1235205170296859753 tw6771558262157964023 tw9788246286499897045 tw499877172887667506 tw15115280993331158948 tw14777346958140127540 tw12481242413410962338 tw15420300464947061298 tw17278406849226751384 tw9402669271255447549 tw818469888178482677 tw2435827379423247632 tw8773094711135528420 tw7405218936225489950 tw3600097840273979584 tw17981127900538233253 tw1521841242217998388 tw12291773697627041310 tw3637372644701276400 tw8326428115674693686 tw9120562273226519224 tw5177944701805429497 tw1954494273559448045 tw16414489176439474364 tw5733270985837440845 tw9732795141929621181 tw5883935042600290832 tw1260109841076350968 tw6218122674186833676 tw18206106006790018264 tw18077252451504420907 tw9077499961655234275 tw6764302976007871798 tw5495284572586914170 tw4236515019513131311 tw287650674779043399 tw2656968180052621667 tw16034974622222034958 tw13611575564037633625 tw17991787516903151381 tw606762706752339208 tw2547206678518552315 tw6886317419517504420 tw9539333330229434558 tw2954193747566217418 tw2695194189827498914 tw17741109219200197992 tw17144172891313021097 tw12671635077959887559 tw15699983004494499897 tw12551272122512833202 tw2003803239806234637 tw3934840123006302250 tw5738809559484746811 tw14736859289869951530 tw5232514982577130909 tw361988391260621986 tw2895145085977752313 tw6343693329405678363 tw10406483173055082522 tw18030133704729496865 tw541602081387266138 tw9462952502537323440 tw5221072658367912132 tw14351239917468089635 tw3756689734191153963 tw13072895344611023291:True)
section
open PySem PySem.W PyProof.Rows
local macro_rules|`(tactic|o_law)=>`(tactic|have hsd:=mf.said)
local macro_rules|`(tactic|k_head)=>`(tactic|k_headS)
local macro_rules|`(tactic|w_witness2)=>`(tactic|exact⟨[.list [.int 1]],by decide+kernel,by decide+kernel⟩)
open_top zzH for PySem.Challenge.rw_roundchains_s01_answers
end
open Vaprbq (takeSteps stepsOf nodesOf showNode reaches classOf stepsTo isEnd numbers chance grownBefore valueIn sharesAfter looked withState refused index fracAnswer orRefused sharesAnswer AFTER withClass stateAnswer distinct stepsAnswer solve)
open VaprbBase (takeName takeNum takeFrac takeWeight frac numberOf isDigit isLetter isBlank RESERVED decimal SIGNS tokens TEXT lex word nameNext PName takeSign takeWord showNat showInt showFrac joined fracRow textRow)
open PySem.W (instObj methodObj lookIn plainGet hasDictIn findIn handedIn isFn plainOver takerIn Looks makesIn typeIn emptyDict keepIn fnOf codeIn codeRec_of WRecords WalkOS nsIn nsOkIn notCls)
open VaprbqNeutral (natural bytesOf asked1 callOf whole60 encode)
open PyVaprbq (shape answers_asked)
open PyFlat (told played)
def WC:=@List.length_map
def WD:=@List.mem_cons_self
def WE:=@List.mem_cons_of_mem
def WG:=@List.getElem?_map
def WH:=@List.getElem?_eq_some_iff
def WI:=@List.length_append
def WJ:=@PySem.sizeLine_eq
def WK:=@List.getElem?_eq_getElem
def WL:=@List.length_cons
def WM:=@if_neg
def WN:=@List.mem_range
def WO:=@if_pos
def WQ:=@List.mem_singleton
def WR:=@Classical.byContradiction
def WS:=@List.mem_of_getElem?
def WT:=@List.mem_map
def WU:=@List.map_cons
def WV:=@List.Nodup.mem_erase_iff
def WW:=@List.mem_cons
def WX:=@List.contains_iff_mem
def WY:=@List.mem_filter
def WZ:=@List.mem_append_right
def W0:=@List.length_range
def W1:=@Nat.le_trans
def W2:=@Nat.le_refl
def W3:=@List.nodup_cons
def W4:=@PySem.Heap.get?_push_of_some
def W5:=@List.length_drop
def W6:=@Rat.intCast_mul
def W7:=@Rat.intCast_pos
def W8:=@Int.natAbs_natCast
def W9:=@Bool.false_ne_true
def W_:=@List.size_toArray
def W':=@PySem.Heap.lt_size
def Xa:=@List.mem_append_left
def Xb:=@List.Pairwise.filter
def Xc:=@List.mem_append
def Xd:=@Bool.and_eq_true
def Xe:=@PySem.PassesOwn.never
def Xf:=@Rat.mul_nonneg
def Xg:=@List.map_map
def Xh:=@List.erase_cons_head
def Xi:=@Nat.pow_lt_pow_right
def Xj:=@Bool.not_eq_true
def Xk:=@Nat.zero_le
def Xl:=@decide_eq_false
def Xm:=@decide_eq_true
def Xn:=@Nat.lt_of_le_of_lt
def Xo:=@Rat.intCast_zero
def Xp:=@List.map_append
def Xq:=@Nat.lt_of_lt_of_le
def Xr:=@Nat.ne_of_gt
def Xs:=@List.map_congr_left
def Xt:=@List.takeWhile_cons
def Xu:=@Bool.eq_iff_iff
def Xv:=@Nat.not_lt_zero
def Xw:=@Option.some.inj
def Xx:=@Int.mul_ediv_cancel_left
def Xy:=@PySem.Heap.get?_push_size
def Xz:=@Nat.ne_of_lt
def XA:=@List.length_singleton
def XB:=@Bool.not_eq_true'
def XC:=@List.append_nil
def XD:=@List.all_eq_true
def XE:=@Ne.symm
def XF:=@List.filter_cons_of_pos
def XG:=@PySem.mem_of_lookup
def XH:=@Nat.mul_le_mul_right
def XI:=@List.mem_of_mem_erase
def XJ:=@Rat.le_of_lt
def XK:=@Int.ofNat_dvd_left
def XM:=@Int.toNat_natCast
def XN:=@Nat.gcd_dvd_left
def XO:=@List.take_length
def XP:=@beq_eq_false_iff_ne
def XQ:=@Option.map_eq_some_iff
def XR:=@Rat.mul_pos
def XS:=@List.ext_getElem
def XT:=@List.filter_cons_of_neg
def XU:=@List.set_set
def XW:=@Int.natAbs_mul
def XX:=@Nat.pow_le_pow_right
def XY:=@Nat.gcd_pos_of_pos_right
def XZ:=@List.append_assoc
def X0:=@List.getElem?_append_right
def X1:=@Nat.dvd_trans
def X2:=@Option.map_some
def X3:=@Nat.mul_le_mul
def X4:=@Nat.gcd_dvd_right
def X5:=@List.drop_eq_getElem_cons
def X6:=@List.getElem?_set_ne
def X7:=@PySem.Heap.get?_update_other
def X8:=@Nat.le_of_dvd
def X9:=@List.findIdx?_eq_some_iff_getElem
def X_:=@Rat.intCast_add
def X':=@List.drop_succ_cons
def Ya:=@Nat.div_le_self
def Yb:=@List.nil_append
def Yc:=@List.length_nil
def Yd:=@List.nodup_nil
def Ye:=@List.length_eq_zero_iff
def Yf:=@Nat.dvd_refl
def Yg:=@Nat.le_of_lt
def Yh:=@Int.natAbs_ediv_of_dvd
def Yi:=@PySem.wpAny_mono
def Yj:=@Rat.intCast_sub
def Yk:=@List.foldl_cons
def Yl:=@List.getElem?_eq_none_iff
def Ym:=@PySem.Heap.size_push
def Yn:=@Nat.lt_irrefl
def Yo:=@Nat.lt_succ_self
def Yp:=@List.length_take
def Yq:=@Rat.div_def
def Yr:=@List.nodup_append
def Ys:=@List.drop_drop
def Yt:=@Rat.intCast_nonneg
def Yu:=@List.mem_filterMap
def Yv:=@PyProof.Rows.callWith_type1
def Yw:=@PySem.wpAny_Call_Name_kw
def Yx:=@List.any_cons
def Yy:=@List.any_eq_true
def Yz:=@List.map_nil
def YA:=@List.lookup_cons
def YB:=@beq_iff_eq
def YC:=@List.filterMap_cons
def YD:=@PySem.wpAny_truthy_bool
def YE:=@List.filter_eq_self
def YF:=@List.mem_of_find?_eq_some
def YG:=@List.getElem?_append_left
def YH:=@Int.mul_nonneg
def YI:=@Nat.lt_trans
def YJ:=@Nat.pos_of_ne_zero
def YK:=@PySem.W.callWith_K
def YL:=@Int.gcd_dvd_natAbs_right
def YM:=@Nat.mul_pos
def YN:=@List.cons_append
def YO:=@List.drop_length
def YP:=@PySem.wpAny_loadName_local
def YQ:=@List.getElem?_cons_succ
def YR:=@Nat.coprime_div_gcd_div_gcd
def YS:=@List.replicate_succ
def YT:=@Rat.intCast_le_intCast
def YU:=@Array.getElem?_eq_some_iff
def YV:=@List.getElem_map
def YW:=@Int.natCast_nonneg
def YX:=@Nat.div_dvd_of_dvd
def YY:=@List.length_filter_le
def YZ:=@UInt8.toNat_ofNat_of_lt'
def Y0:=@Int.natCast_mul
def Y1:=@List.range_succ
def Y2:=@Nat.dvd_lcm_right
def Y3:=@PySem.wpAny_passesOwn
def Y4:=@List.flatten_cons
def Y5:=@List.find?_cons
def Y6:=@PySem.plainObj_wpAny_Assign_Attribute
def Y7:=@List.flatMap_cons
def Y8:=@Nat.succ_mul
def Y9:=@Rat.inv_pos
def Y_:=@List.map_id
def Y':=@Nat.div_pos
def Za:=@Nat.mul_div_cancel_left
def Zb:=@List.length_zipWith
def Zc:=@Nat.mul_le_mul_left
def Zd:=@Bool.true_and
def Ze:=@List.getElem_mem
def Zf:=@Nat.dvd_lcm_left
def Zg:=@List.length_pos_of_mem
def Zh:=@List.find?_cons_of_neg
def Zi:=@List.getElem?_set_self
def Zj:=@PySem.Calls.callWith_builtin
def Zk:=@PySem.Obj.data_mapFields
def Zl:=@List.getElem_range
def Zm:=@List.mem_iff_getElem?
def Zn:=@List.getElem?_eq_none
def Zo:=@Int.natAbs_dvd_natAbs
def Zp:=@Int.le_of_lt
def Zq:=@PySem.wpAny_execs_nil
def Zr:=@PySem.Heap.get?_update_self
def Zs:=@Nat.min_eq_left
def Zt:=@of_decide_eq_true
def Zu:=@List.erase_cons_tail
def Zv:=@List.getElem_zipWith
def Zw:=@List.mem_of_mem_drop
def Zx:=@List.mem_of_mem_take
def Zy:=@List.findIdx?_eq_none_iff
def Zz:=@List.getElem_inj
def ZA:=@Nat.le_add_right
def ZC:=@beq_self_eq_true
def ZD:=@Int.gcd_dvd_left
def ZE:=@Nat.lcm_pos
def ZF:=@bne_iff_ne
def ZG:=@List.length_erase_of_mem
def ZH:=@Nat.add_comm
def ZI:=@Nat.pow_succ
def ZJ:=@Option.isSome_iff_exists
def ZK:=@Rat.intCast_inj
def ZL:=@List.head?_cons
def ZN:=@Int.ediv_nonneg
def ZO:=@Option.isSome_some
def ZP:=@PySem.tupleKind_room_in1
def ZQ:=@PySem.W.ns_none_of
def ZR:=@Nat.add_sub_cancel_left
def ZS:=@List.filter_append
def ZT:=@PySem.W.mg_of
def ZU:=@List.find?_cons_of_pos
def ZV:=@Option.some.injEq
def ZW:=@Nat.one_mul
def ZX:=@Nat.pow_mul
def ZY:=@Nat.le_of_succ_le
def ZZ:=@Nat.not_lt
def Z0:=@Nat.sub_self
def Z1:=@List.eq_nil_iff_forall_not_mem
def Z2:=@Int.add_zero
def Z3:=@List.zipIdx_cons
def Z4:=@if_true
def Z5:=@List.mem_flatMap
def Z6:=@Nat.le_of_not_lt
def Z7:=@PySem.wpAny_execs_cons
def Z8:=@List.not_mem_nil
def Z9:=@Int.natCast_ediv
def Z_:=@Nat.Coprime.coprime_dvd_right
def Z':=@List.forall_mem_cons
def aaa:=@PySem.W.looks_findIn
def aab:=@PySem.Calls.evalArgs_plain
def aac:=@PySem.F.excBase_ValueError
def aad:=@PySem.wpAny_standAt
def aae:=@Bool.or_false
def aaf:=@PySem.W.length_le_weightAllW
def aag:=@List.set_comm
def aah:=@List.map_drop
def aai:=@List.sum_cons
def aaj:=@Nat.Coprime.coprime_dvd_left
def aak:=@PySem.wpAny_Name
def aal:=@PySem.call_meets
def aam:=@Rat.mul_eq_zero
def aan:=@Nat.dvd_gcd_iff
def aao:=@Nat.lcm_dvd_mul
def aap:=@PySem.W.plainGet_of
def aaq:=@Nat.le_succ
def aar:=@List.length_set
def aas:=@PySem.pushCells_keeps
def aat:=@List.take_succ_cons
def aau:=@PySem.F.plainAttrs_list
def aav:=@Int.gcd_pos_of_ne_zero_left
def aaw:=@Int.dvd_coe_gcd
def aax:=@Nat.pow_add
def aay:=@List.flatMap_append
def aaz:=@PySem.Calls.Name_function_global
def aaA:=@PySem.wpAny_newFunctionEnv_cells
def aaB:=@decide_eq_true_iff
def aaC:=@Nat.lt_of_le_of_ne
def aaD:=@Array.append_assoc
def aaE:=@Array.find?_toList
def aaF:=@Nat.le_of_eq
def aaG:=@PySem.F.slot_list_extend
def aaH:=@Bool.false_eq_true
def aaI:=@PySem.W.isNs_of_in
def aaJ:=@List.contains_cons
def aaK:=@List.getElem?_drop
def aaL:=@List.take_zero
def aaM:=@List.mem_take_iff_getElem
def aaN:=@List.filter_congr
def aaO:=@Nat.lt_succ_of_lt
def aaP:=@Option.isSome_map
def aaQ:=@Int.gcd_dvd_right
def aaR:=@Int.dvd_mul_of_dvd_right
def aaT:=@List.erase_append_right
def aaU:=@PySem.wpAny_holding
def aaV:=@List.getElem?_replicate
def aaW:=@List.all_cons
def aaX:=@PySem.F.slot_list_index
def aaY:=@decide_eq_false_iff_not
def aaZ:=@Int.mul_ediv_mul_of_pos
def aa0:=@Int.dvd_trans
def aa1:=@Int.pos_of_mul_pos_left
def aa2:=@Int.mul_pos
def aa3:=@Int.natCast_dvd_natCast
def aa4:=@List.map_take
def aa5:=@Nat.gcd_le_right
def aa6:=@Int.ediv_le_self
def aa7:=@List.getElem_set
def aa8:=@Option.getD_some
def aa9:=@List.pairwise_lt_range
def aa_:=@PySem.W.cellsFrom_some
def aba:=@List.take_of_length_le
def abb:=@List.range_succ_eq_map
def abc:=@List.zipWith_cons_cons
def abd:=@List.erase_comm
def abe:=@Rat.intCast_neg
def abf:=@List.find?_some
def abg:=@UInt8.toNat_inj
def abh:=@List.mem_of_mem_head?
def abi:=@Int.mul_ne_zero
def abj:=@PySem.codeAny_mono
def abk:=@PySem.W.methodCall_KW
def abl:=@List.of_mem_zip
def abm:=@List.length_replicate
def abn:=@PySem.Heap.Ns.of_isNs
def abo:=@Nat.zero_add
def abp:=@Nat.Coprime.mul_right
def abq:=@List.eq_nil_or_concat
def abr:=@List.concat_eq_append
def abt:=@List.filter_map
def abu:=@if_false
def abv:=@List.getElem?_zipIdx
def abw:=@List.mem_erase_of_ne
def abx:=@Array.mem_toList_iff
def aby:=@Bool.and_eq_true_iff
def abz:=@Int.natAbs_of_nonneg
def abA:=@List.dropLast_concat
def abB:=@Bool.false_and
def abC:=@Bool.and_false
def abD:=@PySem.wpAny_setField
def abE:=@List.getElem_of_mem
def abF:=@Int.dvd_add
def abG:=@List.dropWhile_cons
def abH:=@List.length_pos_iff
def abI:=@Array.length_toList
def abJ:=@PySem.W.findObj_own
def abK:=@PySem.W.callWith_K0
def abL:=@List.toList_toArray
def abM:=@PySem.wpAny_field
def abN:=@Nat.mul_assoc
def abO:=@PySem.Within.cons
def abP:=@Nat.min_self
def abQ:=@Nat.dvd_zero
def abR:=@Nat.mul_comm
def abS:=@Bool.or_true
def abT:=@Int.zero_add
def abU:=@Nat.add_zero
def abV:=@Nat.pow_pos
theorem zl1{α}{l:List α}(h:l.length=1):∃a,l=[a]:=by rcases l with _|⟨_,_|_⟩<;>simp_all
theorem zl2{α}{l:List α}(h:l.length=2):∃a b,l=[a,b]:=by rcases l with _|⟨_,_|⟨_,_|_⟩⟩<;>simp_all
theorem zl3{α}{l:List α}(h:l.length=3):∃a b c,l=[a,b,c]:=by rcases l with _|⟨_,_|⟨_,_|⟨_,_|_⟩⟩⟩<;>simp_all
theorem zl4{α}{l:List α}(h:l.length=4):∃a b c d,l=[a,b,c,d]:=by rcases l with _|⟨_,_|⟨_,_|⟨_,_|⟨_,_|_⟩⟩⟩⟩<;>simp_all
theorem zl5{α}{l:List α}(h:l.length=5):∃a b c d e,l=[a,b,c,d,e]:=by rcases l with _|⟨_,_|⟨_,_|⟨_,_|⟨_,_|⟨_,_|_⟩⟩⟩⟩⟩<;>simp_all
theorem zh0{A:Prop}(h:∀G:Prop,(A->G)->G):A:=h A id
theorem zg0{A:Prop}(h:A):A:=h
section
variable{R S T U V W X Y Z I:Type}{G:Prop}
def zn1{F:R->List I}{A:R->Prop}{l:List I}{n}(h:∃a,l=F a/\A a)(k:∀a,(F a).length=n):l.length=n:=by rcases h with⟨a,rfl,_⟩;exact k _ 
def zn2{F:R->S->List I}{A:R->S->Prop}{l:List I}{n}(h:∃a b,l=F a b/\A a b)(k:∀a b,(F a b).length=n):l.length=n:=by rcases h with⟨a,b,rfl,_⟩;exact k _ _ 
def zn3{F:R->S->T->List I}{A:R->S->T->Prop}{l:List I}{n}(h:∃a b c,l=F a b c/\A a b c)(k:∀a b c,(F a b c).length=n):l.length=n:=by rcases h with⟨a,b,c,rfl,_⟩;exact k _ _ _ 
def zn4{F:R->S->T->U->List I}{A:R->S->T->U->Prop}{l:List I}{n}(h:∃a b c d,l=F a b c d/\A a b c d)(k:∀a b c d,(F a b c d).length=n):l.length=n:=by rcases h with⟨a,b,c,d,rfl,_⟩;exact k _ _ _ _ 
def zn5{F:R->S->T->U->V->List I}{A:R->S->T->U->V->Prop}{l:List I}{n}(h:∃a b c d e,l=F a b c d e/\A a b c d e)(k:∀a b c d e,(F a b c d e).length=n):l.length=n:=by rcases h with⟨a,b,c,d,e,rfl,_⟩;exact k _ _ _ _ _ 
def zn6{F:R->S->T->U->V->W->List I}{A:R->S->T->U->V->W->Prop}{l:List I}{n}(h:∃a b c d e f,l=F a b c d e f/\A a b c d e f)(k:∀a b c d e f,(F a b c d e f).length=n):l.length=n:=by rcases h with⟨a,b,c,d,e,f,rfl,_⟩;exact k _ _ _ _ _ _ 
def zn7{F:R->S->T->U->V->W->X->List I}{A:R->S->T->U->V->W->X->Prop}{l:List I}{n}(h:∃a b c d e f g,l=F a b c d e f g/\A a b c d e f g)(k:∀a b c d e f g,(F a b c d e f g).length=n):l.length=n:=by rcases h with⟨a,b,c,d,e,f,g,rfl,_⟩;exact k _ _ _ _ _ _ _ 
def zn8{F:R->S->T->U->V->W->X->Y->List I}{A:R->S->T->U->V->W->X->Y->Prop}{l:List I}{n}(h:∃a b c d e f g h,l=F a b c d e f g h/\A a b c d e f g h)(k:∀a b c d e f g h,(F a b c d e f g h).length=n):l.length=n:=by rcases h with⟨a,b,c,d,e,f,g,h,rfl,_⟩;exact k _ _ _ _ _ _ _ _ 
def zn9{F:R->S->T->U->V->W->X->Y->Z->List I}{A:R->S->T->U->V->W->X->Y->Z->Prop}{l:List I}{n}(h:∃a b c d e f g h i,l=F a b c d e f g h i/\A a b c d e f g h i)(k:∀a b c d e f g h i,(F a b c d e f g h i).length=n):l.length=n:=by rcases h with⟨a,b,c,d,e,f,g,h,i,rfl,_⟩;exact k _ _ _ _ _ _ _ _ _ 
def zE01{A B:Prop}(h:A/\B)(k:A->B->G):G:=by rcases h with⟨p,q⟩;exact k p q
def zE02{A B C:Prop}(h:A/\B/\C)(k:A->B->C->G):G:=by rcases h with⟨p,q,r⟩;exact k p q r
def zE03{A B C D:Prop}(h:A/\B/\C/\D)(k:A->B->C->D->G):G:=by rcases h with⟨p,q,r,s⟩;exact k p q r s
def zE04{A B C D E:Prop}(h:A/\B/\C/\D/\E)(k:A->B->C->D->E->G):G:=by rcases h with⟨p,q,r,s,t⟩;exact k p q r s t
def zE05{A B C D E F:Prop}(h:A/\B/\C/\D/\E/\F)(k:A->B->C->D->E->F->G):G:=by rcases h with⟨p,q,r,s,t,u⟩;exact k p q r s t u
def zE10{A:R->Prop}(h:∃a,A a)(k:∀a,A a->G):G:=by rcases h with⟨a,p⟩;exact k a p
def zE11{A B:R->Prop}(h:∃a,A a/\B a)(k:∀a,A a->B a->G):G:=by rcases h with⟨a,p,q⟩;exact k a p q
def zE12{A B C:R->Prop}(h:∃a,A a/\B a/\C a)(k:∀a,A a->B a->C a->G):G:=by rcases h with⟨a,p,q,r⟩;exact k a p q r
def zE13{A B C D:R->Prop}(h:∃a,A a/\B a/\C a/\D a)(k:∀a,A a->B a->C a->D a->G):G:=by rcases h with⟨a,p,q,r,s⟩;exact k a p q r s
def zE14{A B C D E:R->Prop}(h:∃a,A a/\B a/\C a/\D a/\E a)(k:∀a,A a->B a->C a->D a->E a->G):G:=by rcases h with⟨a,p,q,r,s,t⟩;exact k a p q r s t
def zE20{A:R->S->Prop}(h:∃a b,A a b)(k:∀a b,A a b->G):G:=by rcases h with⟨a,b,p⟩;exact k a b p
def zE21{A B:R->S->Prop}(h:∃a b,A a b/\B a b)(k:∀a b,A a b->B a b->G):G:=by rcases h with⟨a,b,p,q⟩;exact k a b p q
def zE22{A B C:R->S->Prop}(h:∃a b,A a b/\B a b/\C a b)(k:∀a b,A a b->B a b->C a b->G):G:=by rcases h with⟨a,b,p,q,r⟩;exact k a b p q r
def zE23{A B C D:R->S->Prop}(h:∃a b,A a b/\B a b/\C a b/\D a b)(k:∀a b,A a b->B a b->C a b->D a b->G):G:=by rcases h with⟨a,b,p,q,r,s⟩;exact k a b p q r s
def zE24{A B C D E:R->S->Prop}(h:∃a b,A a b/\B a b/\C a b/\D a b/\E a b)(k:∀a b,A a b->B a b->C a b->D a b->E a b->G):G:=by rcases h with⟨a,b,p,q,r,s,t⟩;exact k a b p q r s t
def zE25{A B C D E F:R->S->Prop}(h:∃a b,A a b/\B a b/\C a b/\D a b/\E a b/\F a b)(k:∀a b,A a b->B a b->C a b->D a b->E a b->F a b->G):G:=by rcases h with⟨a,b,p,q,r,s,t,u⟩;exact k a b p q r s t u
def zE30{A:R->S->T->Prop}(h:∃a b c,A a b c)(k:∀a b c,A a b c->G):G:=by rcases h with⟨a,b,c,p⟩;exact k a b c p
def zE31{A B:R->S->T->Prop}(h:∃a b c,A a b c/\B a b c)(k:∀a b c,A a b c->B a b c->G):G:=by rcases h with⟨a,b,c,p,q⟩;exact k a b c p q
def zE32{A B C:R->S->T->Prop}(h:∃a b c,A a b c/\B a b c/\C a b c)(k:∀a b c,A a b c->B a b c->C a b c->G):G:=by rcases h with⟨a,b,c,p,q,r⟩;exact k a b c p q r
def zE33{A B C D:R->S->T->Prop}(h:∃a b c,A a b c/\B a b c/\C a b c/\D a b c)(k:∀a b c,A a b c->B a b c->C a b c->D a b c->G):G:=by rcases h with⟨a,b,c,p,q,r,s⟩;exact k a b c p q r s
def zE34{A B C D E:R->S->T->Prop}(h:∃a b c,A a b c/\B a b c/\C a b c/\D a b c/\E a b c)(k:∀a b c,A a b c->B a b c->C a b c->D a b c->E a b c->G):G:=by rcases h with⟨a,b,c,p,q,r,s,t⟩;exact k a b c p q r s t
def zE35{A B C D E F:R->S->T->Prop}(h:∃a b c,A a b c/\B a b c/\C a b c/\D a b c/\E a b c/\F a b c)(k:∀a b c,A a b c->B a b c->C a b c->D a b c->E a b c->F a b c->G):G:=by rcases h with⟨a,b,c,p,q,r,s,t,u⟩;exact k a b c p q r s t u
def zE36{A B C D E F K:R->S->T->Prop}(h:∃a b c,A a b c/\B a b c/\C a b c/\D a b c/\E a b c/\F a b c/\K a b c)(k:∀a b c,A a b c->B a b c->C a b c->D a b c->E a b c->F a b c->K a b c->G):G:=by rcases h with⟨a,b,c,p,q,r,s,t,u,v⟩;exact k a b c p q r s t u v
def zE41{A B:R->S->T->U->Prop}(h:∃a b c d,A a b c d/\B a b c d)(k:∀a b c d,A a b c d->B a b c d->G):G:=by rcases h with⟨a,b,c,d,p,q⟩;exact k a b c d p q
def zE42{A B C:R->S->T->U->Prop}(h:∃a b c d,A a b c d/\B a b c d/\C a b c d)(k:∀a b c d,A a b c d->B a b c d->C a b c d->G):G:=by rcases h with⟨a,b,c,d,p,q,r⟩;exact k a b c d p q r
def zE43{A B C D:R->S->T->U->Prop}(h:∃a b c d,A a b c d/\B a b c d/\C a b c d/\D a b c d)(k:∀a b c d,A a b c d->B a b c d->C a b c d->D a b c d->G):G:=by rcases h with⟨a,b,c,d,p,q,r,s⟩;exact k a b c d p q r s
def zE44{A B C D E:R->S->T->U->Prop}(h:∃a b c d,A a b c d/\B a b c d/\C a b c d/\D a b c d/\E a b c d)(k:∀a b c d,A a b c d->B a b c d->C a b c d->D a b c d->E a b c d->G):G:=by rcases h with⟨a,b,c,d,p,q,r,s,t⟩;exact k a b c d p q r s t
def zE45{A B C D E F:R->S->T->U->Prop}(h:∃a b c d,A a b c d/\B a b c d/\C a b c d/\D a b c d/\E a b c d/\F a b c d)(k:∀a b c d,A a b c d->B a b c d->C a b c d->D a b c d->E a b c d->F a b c d->G):G:=by rcases h with⟨a,b,c,d,p,q,r,s,t,u⟩;exact k a b c d p q r s t u
def zE54{A B C D E:R->S->T->U->V->Prop}(h:∃a b c d e,A a b c d e/\B a b c d e/\C a b c d e/\D a b c d e/\E a b c d e)(k:∀a b c d e,A a b c d e->B a b c d e->C a b c d e->D a b c d e->E a b c d e->G):G:=by rcases h with⟨a,b,c,d,e,p,q,r,s,t⟩;exact k a b c d e p q r s t
def zE62{A B C:R->S->T->U->V->W->Prop}(h:∃a b c d e f,A a b c d e f/\B a b c d e f/\C a b c d e f)(k:∀a b c d e f,A a b c d e f->B a b c d e f->C a b c d e f->G):G:=by rcases h with⟨a,b,c,d,e,f,p,q,r⟩;exact k a b c d e f p q r
def zE63{A B C D:R->S->T->U->V->W->Prop}(h:∃a b c d e f,A a b c d e f/\B a b c d e f/\C a b c d e f/\D a b c d e f)(k:∀a b c d e f,A a b c d e f->B a b c d e f->C a b c d e f->D a b c d e f->G):G:=by rcases h with⟨a,b,c,d,e,f,p,q,r,s⟩;exact k a b c d e f p q r s
def zE71{A B:R->S->T->U->V->W->X->Prop}(h:∃a b c d e f g,A a b c d e f g/\B a b c d e f g)(k:∀a b c d e f g,A a b c d e f g->B a b c d e f g->G):G:=by rcases h with⟨a,b,c,d,e,f,g,p,q⟩;exact k a b c d e f g p q
def zE90{A:R->S->T->U->V->W->X->Y->Z->Prop}(h:∃a b c d e f g h i,A a b c d e f g h i)(k:∀a b c d e f g h i,A a b c d e f g h i->G):G:=by rcases h with⟨a,b,c,d,e,f,g,h,i,p⟩;exact k a b c d e f g h i p
def zI11{A B:R->Prop}(a)(p:A a)(q:B a):∃a,A a/\B a:=⟨a,p,q⟩
def zI12{A B C:R->Prop}(a)(p:A a)(q:B a)(r:C a):∃a,A a/\B a/\C a:=⟨a,p,q,r⟩
def zI13{A B C D:R->Prop}(a)(p:A a)(q:B a)(r:C a)(s:D a):∃a,A a/\B a/\C a/\D a:=⟨a,p,q,r,s⟩
def zI14{A B C D E:R->Prop}(a)(p:A a)(q:B a)(r:C a)(s:D a)(t:E a):∃a,A a/\B a/\C a/\D a/\E a:=⟨a,p,q,r,s,t⟩
def zI20{A:R->S->Prop}(a b)(p:A a b):∃a b,A a b:=⟨a,b,p⟩
def zI21{A B:R->S->Prop}(a b)(p:A a b)(q:B a b):∃a b,A a b/\B a b:=⟨a,b,p,q⟩
def zI22{A B C:R->S->Prop}(a b)(p:A a b)(q:B a b)(r:C a b):∃a b,A a b/\B a b/\C a b:=⟨a,b,p,q,r⟩
def zI23{A B C D:R->S->Prop}(a b)(p:A a b)(q:B a b)(r:C a b)(s:D a b):∃a b,A a b/\B a b/\C a b/\D a b:=⟨a,b,p,q,r,s⟩
def zI24{A B C D E:R->S->Prop}(a b)(p:A a b)(q:B a b)(r:C a b)(s:D a b)(t:E a b):∃a b,A a b/\B a b/\C a b/\D a b/\E a b:=⟨a,b,p,q,r,s,t⟩
def zI25{A B C D E F:R->S->Prop}(a b)(p:A a b)(q:B a b)(r:C a b)(s:D a b)(t:E a b)(u:F a b):∃a b,A a b/\B a b/\C a b/\D a b/\E a b/\F a b:=⟨a,b,p,q,r,s,t,u⟩
def zI31{A B:R->S->T->Prop}(a b c)(p:A a b c)(q:B a b c):∃a b c,A a b c/\B a b c:=⟨a,b,c,p,q⟩
def zI32{A B C:R->S->T->Prop}(a b c)(p:A a b c)(q:B a b c)(r:C a b c):∃a b c,A a b c/\B a b c/\C a b c:=⟨a,b,c,p,q,r⟩
def zI33{A B C D:R->S->T->Prop}(a b c)(p:A a b c)(q:B a b c)(r:C a b c)(s:D a b c):∃a b c,A a b c/\B a b c/\C a b c/\D a b c:=⟨a,b,c,p,q,r,s⟩
def zI34{A B C D E:R->S->T->Prop}(a b c)(p:A a b c)(q:B a b c)(r:C a b c)(s:D a b c)(t:E a b c):∃a b c,A a b c/\B a b c/\C a b c/\D a b c/\E a b c:=⟨a,b,c,p,q,r,s,t⟩
def zI43{A B C D:R->S->T->U->Prop}(a b c d)(p:A a b c d)(q:B a b c d)(r:C a b c d)(s:D a b c d):∃a b c d,A a b c d/\B a b c d/\C a b c d/\D a b c d:=⟨a,b,c,d,p,q,r,s⟩
def zI44{A B C D E:R->S->T->U->Prop}(a b c d)(p:A a b c d)(q:B a b c d)(r:C a b c d)(s:D a b c d)(t:E a b c d):∃a b c d,A a b c d/\B a b c d/\C a b c d/\D a b c d/\E a b c d:=⟨a,b,c,d,p,q,r,s,t⟩
def zI45{A B C D E F:R->S->T->U->Prop}(a b c d)(p:A a b c d)(q:B a b c d)(r:C a b c d)(s:D a b c d)(t:E a b c d)(u:F a b c d):∃a b c d,A a b c d/\B a b c d/\C a b c d/\D a b c d/\E a b c d/\F a b c d:=⟨a,b,c,d,p,q,r,s,t,u⟩
def zI46{A B C D E F K:R->S->T->U->Prop}(a b c d)(p:A a b c d)(q:B a b c d)(r:C a b c d)(s:D a b c d)(t:E a b c d)(u:F a b c d)(v:K a b c d):∃a b c d,A a b c d/\B a b c d/\C a b c d/\D a b c d/\E a b c d/\F a b c d/\K a b c d:=⟨a,b,c,d,p,q,r,s,t,u,v⟩
def zI52{A B C:R->S->T->U->V->Prop}(a b c d e)(p:A a b c d e)(q:B a b c d e)(r:C a b c d e):∃a b c d e,A a b c d e/\B a b c d e/\C a b c d e:=⟨a,b,c,d,e,p,q,r⟩
def zI54{A B C D E:R->S->T->U->V->Prop}(a b c d e)(p:A a b c d e)(q:B a b c d e)(r:C a b c d e)(s:D a b c d e)(t:E a b c d e):∃a b c d e,A a b c d e/\B a b c d e/\C a b c d e/\D a b c d e/\E a b c d e:=⟨a,b,c,d,e,p,q,r,s,t⟩
def zI55{A B C D E F:R->S->T->U->V->Prop}(a b c d e)(p:A a b c d e)(q:B a b c d e)(r:C a b c d e)(s:D a b c d e)(t:E a b c d e)(u:F a b c d e):∃a b c d e,A a b c d e/\B a b c d e/\C a b c d e/\D a b c d e/\E a b c d e/\F a b c d e:=⟨a,b,c,d,e,p,q,r,s,t,u⟩
def zI56{A B C D E F K:R->S->T->U->V->Prop}(a b c d e)(p:A a b c d e)(q:B a b c d e)(r:C a b c d e)(s:D a b c d e)(t:E a b c d e)(u:F a b c d e)(v:K a b c d e):∃a b c d e,A a b c d e/\B a b c d e/\C a b c d e/\D a b c d e/\E a b c d e/\F a b c d e/\K a b c d e:=⟨a,b,c,d,e,p,q,r,s,t,u,v⟩
def zI62{A B C:R->S->T->U->V->W->Prop}(a b c d e f)(p:A a b c d e f)(q:B a b c d e f)(r:C a b c d e f):∃a b c d e f,A a b c d e f/\B a b c d e f/\C a b c d e f:=⟨a,b,c,d,e,f,p,q,r⟩
def zI63{A B C D:R->S->T->U->V->W->Prop}(a b c d e f)(p:A a b c d e f)(q:B a b c d e f)(r:C a b c d e f)(s:D a b c d e f):∃a b c d e f,A a b c d e f/\B a b c d e f/\C a b c d e f/\D a b c d e f:=⟨a,b,c,d,e,f,p,q,r,s⟩
def zI66{A B C D E F K:R->S->T->U->V->W->Prop}(a b c d e f)(p:A a b c d e f)(q:B a b c d e f)(r:C a b c d e f)(s:D a b c d e f)(t:E a b c d e f)(u:F a b c d e f)(v:K a b c d e f):∃a b c d e f,A a b c d e f/\B a b c d e f/\C a b c d e f/\D a b c d e f/\E a b c d e f/\F a b c d e f/\K a b c d e f:=⟨a,b,c,d,e,f,p,q,r,s,t,u,v⟩
def zI70{A:R->S->T->U->V->W->X->Prop}(a b c d e f g)(p:A a b c d e f g):∃a b c d e f g,A a b c d e f g:=⟨a,b,c,d,e,f,g,p⟩
end
theorem zq9{a b c:Rat}(h:b≠0)(i:c≠0):a/b=c*a/(c*b):=by grind
local macro_rules|`(tactic|obtain $p:rcasesPatMed := $e:term)=>`(tactic|first|(refine zh0 ?_;intro G k;rcases $e:term with $p:rcasesPatMed;all_goals (refine k ?_;clear k G))|rcases $e:term with $p:rcasesPatMed)
local macro_rules|`({$xs:term,*})=>`(⟨$xs,*⟩)
local macro_rules|`(tactic|exact ⟨$xs,*⟩)=>`(tactic|refine ⟨$xs,*⟩)|`(tactic|exact {$xs:term,*})=>`(tactic|refine ⟨$xs,*⟩)|`(tactic|refine {$xs:term,*})=>`(tactic|refine ⟨$xs,*⟩)|`(tactic|refine ⟨$xs,*⟩)=>do
 let p:=xs.getElems
 let n:=p.size-1
 let a<-(((List.range (n-1)).flatMap λd=>(List.range (n-d)).map λj=>(n-d-j,j)).toArray.filter (λ(i,j)=>0x930e8780f0fc3c00.testBit (i*9+j))).mapM λ(i,j)=>do
  let r:=p.extract (i+j) p.size
  `(tactic|refine $(Lean.mkIdent (.mkSimple s!"zI{i}{j}")) $((p.extract 0 (i+j)).push (<-if r.size=1 then pure r[0]! else `(⟨$r,*⟩)))*)
 `(tactic|first|(guard_target=~Exists _;first $[|$a:tactic]*)|refine (⟨$p,*⟩))
local macro_rules|`(tactic|cases $h:ident)=>`(tactic|first|(replace $h:ident:=Option.some.inj $h;cases ($h))|cases ($h))
local macro_rules|`(tactic|calc $e:term)=>`(tactic|exact $e)
local macro_rules|`(tactic|let ($x,$xs,*) := $e)=>do
 let p<-(#[x]++xs.getElems).mapM λ|`($i:ident)=>`(rcasesPat|$i:ident)|_=>`(rcasesPat|_)
 let n:=p.size-1
 let a<-(((List.range n).flatMap λd=>(List.range (n-d+1)).map λj=>(n-d-j,j)).toArray.filter (λ(i,j)=>0x20001030203e3f8fc3e3e.testBit (i*9+j))).mapM λ(i,j)=>do
  let r:=p.extract (i+j) p.size
  `(tactic|(refine $(Lean.mkIdent (.mkSimple s!"zE{i}{j}")) $e ?_;(try clear $e);rintro $((p.extract 0 (i+j)).push (<-if r.size=1 then pure r[0]! else `(rcasesPat|⟨$r,*⟩)))*))
 `(tactic|first $[|$(a.push (<-`(tactic|obtain ⟨$p,*⟩ := $e))):tactic]*)
local macro_rules|`(tactic|nofun)=>`(tactic|simp_all)
local macro_rules|`(tactic|erw [$s,*])=>`(tactic|simp only [$[$(s.getElems.map (⟨·.raw[1]⟩)):term],*])|`(tactic|erw [$s,*] at $h:ident)=>`(tactic|simp only [$[$(s.getElems.map (⟨·.raw[1]⟩)):term],*] at $h:ident)
namespace mf
abbrev aX:=Nat->Nat->Rat
def aq:List Nat->(Nat->Rat)->Rat|[],_=>0|x::r,f=>f x+aq r f
def hA f:aq [] f=0:=rfl
def bu x r f:aq (x::r) f=f x+aq r f:=rfl
theorem br:∀{l:List Nat}{f g:Nat->Rat},(∀i∈l,f i=g i)->aq l f=aq l g|[],_,_,_=>rfl|x::r,f,g,h=>by erw[bu,bu,h x (WD ..),br λi af=>h i (WE _ af)]
theorem iE:∀l(f g),aq l (λi=>f i+g i)=aq l f+aq l g|[],_,_=>by simp[hA];grind|x::r,f,g=>by erw[bu,bu,bu,iE r];grind
theorem cn:∀l k f,aq l (λi=>k*f i)=k*aq l f|[],_,_=>by erw[hA];simp|x::r,k,f=>by erw[bu,bu,cn r];grind
def dm l(f g):aq l (λi=>f i-g i)=aq l f-aq l g:=by
 have h:aq l (λi=>f i-g i)=aq l (λi=>f i+(-1)*g i):=br λi _=>by grind
 erw[h,iE,cn];grind
theorem fk:∀{l:List Nat}{f:Nat->Rat},(∀i∈l,f i=0)->aq l f=0|[],_,_=>rfl|x::r,f,h=>by erw[bu,fk λi af=>h i (WE _ af)];grind
theorem gC:∀{l:List Nat}{f:Nat->Rat},(∀i∈l,0<=f i)->0<=aq l f|[],_,_=>by erw[hA];simp|x::r,f,h=>by have ag:=gC λi af=>h i (WE _ af);erw[bu];grind
def sD(h:∀i∈l,f i<=g i):aq l f<=aq l g:=by
 have ae:0<=aq l (λi=>g i-f i):=gC λi af=>by grind
 rw[dm]at ae;grind
theorem hB:∀{l:List Nat}{f:Nat->Rat},(∀i∈l,0<=f i)->∀k∈l,f k<=aq l f
 |x::r,f,h,k,ak=>by
  have ag:=gC λi af=>h i (WE _ af);erw[bu];rcases WW.mp ak with e|ak;grind;have a:=hB (λi af=>h i (WE _ af)) k ak;grind
theorem dK:∀{l:List Nat}f{p:Nat},p∈l->aq l f=f p+aq (l.erase p) f
 |x::r,f,p,h=>by
  by_cases e:x=p;subst e;rw[Xh,bu];have a:p∈r:=by grind
  rw[Zu (by nofun),bu,bu,dK f a];grind
def aL(p:Nat)(a:aX):aX:=λi j=>a i j-a i p*a p j/a p p
def els:List Nat->aX->aX|[],a=>a|p::L,a=>els L (aL p a)
def ds:List Nat->aX->Rat|[],_=>1|p::L,a=>a p p*ds L (aL p a)
def vD(d:a p p≠0)(e:a q q≠0)(b:aL p a q q≠0)(c:aL q a p p≠0):aL q (aL p a)=aL p (aL q a):=by unfold aL at*;grind
def zW(b:a p p≠0)(c:a q q≠0):a p p*aL p a q q=a q q*aL q a p p:=by unfold aL;grind
structure da(G:List Nat->aX->Prop):Prop where
 nodup:∀{L a},G L a->L.Nodup
 pos:∀{L a p},G L a->p∈L->0<a p p
 off:∀{L a i j},G L a->i∈L->j∈L->i≠j->a i j<=0
 aL:∀{L a p},G L a->p∈L->G (L.erase p) (aL p a)
 sub:∀{L a p},G L a->p∈L->G (L.erase p) a
theorem pY:∀L s a,els (L++[s]) a=aL s (els L a)|[],_,_=>rfl|p::L,s,a=>by show els (L++[s]) (aL p a)=_;rw[pY L s];rfl
theorem jj:∀L s a,ds (L++[s]) a=ds L a*els L a s s|[],s,a=>by show a s s*1=1*a s s;simp|p::L,s,a=>by show a p p*ds (L++[s]) (aL p a)=a p p*ds L (aL p a)*els L (aL p a) s s;erw[jj L s];grind
variable {G:List Nat->aX->Prop}
theorem pZ(b:da G):∀L s a,G (s::L) a->els (s::L) a=els (L++[s]) a/\ds (s::L) a=ds (L++[s]) a
 |[],s,a,_=>⟨rfl,rfl⟩|q::L,s,a,h=>by
  have cA:s∈s::q::L:=WD ..;have dc:q∈s::q::L:=WE _ (WD ..);have c:(s::q::L).erase q=s::L:=by grind
  have ae:=b.aL h dc;rw[c]at ae;have ag:=b.aL h cA;rw[Xh]at ag;have e:=b.pos h cA;have bn:=b.pos h dc;have f:=b.pos ae (WD ..);have g:=b.pos ag (WD ..);have d:=vD (a:=a) (p:=s) (q:=q) (by grind) (by grind) (by grind) (by grind);have i:=zW (a:=a) (p:=s) (q:=q) (by grind) (by grind);let(eJ,bp):=pZ b L s (aL q a) ae;constructor;show els L (aL q (aL s a))=els (L++[s]) (aL q a);simp only[d,<-eJ];rfl;show a s s*(aL s a q q*ds L (aL q (aL s a)))=a q q*ds (L++[s]) (aL q a);simp only[<-bp];show _=a q q*(aL q a s s*ds L (aL s (aL q a)));grind
theorem sE(b:da G):∀L s a,G L a->s∈L->els L a=els (L.erase s++[s]) a/\ds L a=ds (L.erase s++[s]) a
 |p::L,s,a,h,hs=>by
  by_cases e:p=s;subst e;rw[Xh];calc pZ b L p a h;have ag:=b.aL h (WD ..);rw[Xh]at ag;have c:s∈L:=by grind
  let(eJ,bp):=sE b L s (aL p a) ag c;rw[Zu (by nofun)];constructor;show els L (aL p a)=els (L.erase s++[s]) (aL p a);calc eJ;show a p p*ds L (aL p a)=a p p*ds (L.erase s++[s]) (aL p a);rw[bp]
def p0(b:da G)(h:G L a)(hs:s∈L):ds L a=ds (L.erase s) a*els (L.erase s) a s s:=by rw[(sE b L s a h hs).2,jj]
theorem mh(b:da G):∀(c L)s a,G L a->s∈L->L.erase s=c->0<els c a s s
 |[],L,s,a,h,hs,_=>b.pos h hs|p::c,L,s,a,h,hs,e=>by
  have g:=b.nodup h;have i:p∈L.erase s:=by rw[e];exact WD ..
  have d:=(WV g).mp i|>.1;have f:=XI i;refine mh b c (L.erase p) s (aL p a) (b.aL h f) ((WV g).mpr ⟨d.symm,hs⟩) ?_;rw[abd,e,Xh]
theorem mi(b:da G):∀L a,G L a->0<ds L a|[],a,_=>by show(0:Rat)<1;rfl|p::L,a,h=>by have ag:=b.aL h (WD ..);rw[Xh]at ag;have ae:=b.pos h (WD ..);have c:=mi b L _ ag;calc XR ae c
theorem k6(b:da G):∀L a,G L a->∀(c d)(j s)(z:Nat->Rat),
  (∀i∈L,c*a i j+d*a i s-aq L (λt=>a i t*z t)=0)->∀i,c*els L a i j+d*els L a i s=c*a i j+d*a i s-aq L λt=>a i t*z t
 |[],a,_,c,d,j,s,z,_,i=>by show c*a i j+d*a i s=c*a i j+d*a i s-0;grind|p::L,a,h,c,d,j,s,z,hz,i=>by
  have ag:=b.aL h (WD ..);rw[Xh]at ag;have f:=b.pos h (WD ..);have key:∀i,aq L (λt=>aL p a i t*z t)=aq L (λt=>a i t*z t)-a i p/a p p*aq L (λt=>a p t*z t):=by intro i;rw[<-cn,<-dm];exact br λt _=>by unfold aL;grind
  have e:=hz p (WD ..);erw[bu]at e;have all:∀i,c*aL p a i j+d*aL p a i s-aq L (λt=>aL p a i t*z t)=c*a i j+d*a i s-aq (p::L) (λt=>a i t*z t):=by intro i;erw[key i,bu];unfold aL;grind
  have:=k6 b L (aL p a) ag c d j s z (λi af=>by rw[all i];calc hz i (WE _ af)) i;show c*els L (aL p a) i j+d*els L (aL p a) i s=_;nofun
theorem h5(b:da G):∀L a,G L a->∀j,∃z:Nat->Rat,∀i∈L,aq L (λt=>a i t*z t)=a i j
 |[],a,_,j=>{λ_=>0,λi af=>by cases af}|p::L,a,h,j=>by
  have ag:=b.aL h (WD ..);rw[Xh]at ag;have d:=b.pos h (WD ..);have c:=W3.mp (b.nodup h);let(z,hz):=h5 b L (aL p a) ag j;have key:∀i,aq L (λt=>aL p a i t*z t)=aq L (λt=>a i t*z t)-a i p/a p p*aq L (λt=>a p t*z t):=by intro i;rw[<-cn,<-dm];exact br λt _=>by unfold aL;grind
  refine{λt=>if t=p then(a p j-aq L λt=>a p t*z t)/a p p else z t,λi af=>?_};have e:aq L (λt=>a i t*(if t=p then(a p j-aq L λt=>a p t*z t)/a p p else z t))=aq L (λt=>a i t*z t):=
   br λt f=>by rw[WM λe=>c.1 (by nofun)]
  show a i p*(if p=p then(a p j-aq L λt=>a p t*z t)/a p p else z p)+_=_;rcases WW.mp af with e|af;grind;have g:=hz i af;have k:aL p a i j=a i j-a i p*a p j/a p p:=rfl;grind
def p1(b:da G)(h:G L a){z:Nat->Rat}(hz:∀i∈L,aq L (λt=>a i t*z t)=a i j)(hs:s∈L):
  z s*els (L.erase s) a s s=els (L.erase s) a s j:=by
 have aI:∀i∈L,1*a i j+(-(z s))*a i s-aq (L.erase s) (λt=>a i t*z t)=0:=by intro i af;have:=hz i af;rw[dK _ hs]at this;grind
 have:=k6 b (L.erase s) a (b.sub h hs) 1 (-(z s)) j s z (λi af=>aI i (XI af)) s;grind
def mj(c:da G)(h:G L a){b:Nat->Rat}{z y:Nat->Rat}(hz:∀i∈L,aq L (λt=>a i t*z t)=b i)(d:∀i∈L,aq L (λt=>a i t*y t)=b i)(hs:s∈L):
  z s=y s:=by
 have aI:∀i∈L,0*a i s+(z s-y s)*a i s-aq (L.erase s) (λt=>a i t*(y t-z t))=0:=by
  intro i af;have e:aq L (λt=>a i t*(y t-z t))=aq L (λt=>a i t*y t)-aq L (λt=>a i t*z t):=by rw[<-dm];grind
  rw[dK _ hs]at e;grind
 have:=k6 c (L.erase s) a (c.sub h hs) 0 (z s-y s) s s (λt=>y t-z t) (λi af=>aI i (XI af)) s;have f:=mh c _ L s a h hs rfl;grind
def vE(b:da G)(h:G L a)(i j):ds L a*els L a i j=ds L a*a i j-aq L (λs=>a i s*(ds (L.erase s) a*els (L.erase s) a s j)):=by
 let(z,hz):=h5 b L a h j;have ae:=k6 b L a h 1 0 j j z (λi af=>by grind) i;have c:aq L (λs=>a i s*(ds (L.erase s) a*els (L.erase s) a s j))=ds L a*aq L (λt=>a i t*z t):=by rw[<-cn];refine br λs hs=>?_;simp only[<-p1 b h hz hs,p0 b h hs];grind
 grind
def zX(b:da G)(h:G L a){z:Nat->Rat}(hz:∀i∈L,aq L (λt=>a i t*z t)=a i j)(hs:s∈L):
  ds L a*z s=ds (L.erase s) a*els (L.erase s) a s j:=by
 simp only[<-p1 b h hz hs,p0 b h hs];grind
theorem p2(c:da G)j:∀(d L)s a,G L a->s∈L->L.erase s=d->(∀i∈L,0<=a i j)->0<=els d a s j
 |[],L,s,a,h,hs,_,f=>f s hs|p::d,L,s,a,h,hs,e,f=>by
  have g:=c.nodup h;have l:p∈L.erase s:=by rw[e];exact WD ..
  have k:=(WV g).mp l|>.1;have b:=XI l;refine p2 c j d (L.erase p) s (aL p a) (c.aL h b) ((WV g).mpr ⟨k.symm,hs⟩) (by grind) λi af=>?_;let(Ik,Il):=(WV g).mp af;have ag:=f p b;have n:=c.off h Il b Ik;have m:=c.pos h b;have o:0<=(-(a i p))*(a p j/a p p):=Xf (by grind) ( Xf ag (XJ (Y9.mpr m)));show 0<=a i j-a i p*a p j/a p p;grind
def n4(b:da G)(h:G L a){z:Nat->Rat}(hz:∀i∈L,aq L (λt=>a i t*z t)=a i j)(c:∀i∈L,0<=a i j)(hs:s∈L):0<=z s:=by have ae:=p1 b h hz hs;have ag:=p2 b j _ L s a h hs rfl c;have d:=mh b _ L s a h hs rfl;apply Rat.not_lt.mp;intro e;have f:0<(-(z s))*els (L.erase s) a s s:=XR (by grind) d;grind
structure el(L:List Nat)(a:aX):Prop where
 nodup:L.Nodup
 off:∀i∈L,∀j∈L,i≠j->a i j<=0
 row:∀i∈L,0<=aq L (a i)
 out:∀C:Nat->Prop,(∀i∈L,C i->aq L (a i)=0/\∀j∈L,j≠i->a i j≠0->C j)->∀i∈L,¬C i
def vF(h:∀i∈l,f i<=0)(ag:0<=aq l f):∀i∈l,f i=0:=by intro i af;have a:=hB (f:=λi=>(-1)*f i) (λi af=>by grind) i af;rw[cn]at a;grind
def vG(h:∀i∈l,f i<=0):aq l f<=0:=by
 have a:=gC (f:=λi=>(-1)*f i) λi af=>by have:=h i af;grind
 rw[cn]at a;grind
def el.pos(h:el L a)(b:p∈L):0<a p p:=by
 apply Rat.not_le.mp;intro l;have k:=h.row p b;rw[dK _ b]at k;have g:∀j∈L.erase p,a p j<=0:=λj c=>by
  let(ae,ag):=(WV h.nodup).mp c;exact h.off p b j ag ae.symm
 have ae:=vG g;have ag:=vF g (by grind);refine h.out (λi=>i=p) (λi af e=>?_) p b rfl;subst e;exact{by rw[dK _ b];grind,λj c d f=>absurd (ag j ((WV h.nodup).mpr ⟨d,c⟩)) f}
def sF(h:el L a)(f:p∈L):el (L.erase p) (aL p a):=by
 have u:=h.pos f;have l:=Y9.mpr u;have mem:∀{j},j∈L.erase p->j≠p/\j∈L:=λb=>(WV h.nodup).mp b;have less:∀{i j},i∈L.erase p->j∈L.erase p->aL p a i j=a i j-(a i p*a p j)*(a p p)⁻¹/\0<=a i p*a p j:=by
  intro i j af b;let(eJ,bp):=mem af;let(h6,k7):=mem b;have q:=h.off i bp p f eJ;have v:=h.off p f j k7 h6.symm;have:0<=(-(a i p))*(-(a p j)):=Xf (by grind) (by grind);exact{by unfold aL;simp only[Yq],by grind}
 have le:∀{i j},i∈L.erase p->j∈L.erase p->aL p a i j<=a i j:=by
  intro i j af b;let(e,x):=less af b;have:=Xf x (XJ l);grind
 have rows:∀{i},i∈L.erase p->aq (L.erase p) (aL p a i)=aq L (a i)+(-(a i p))*(a p p)⁻¹*aq L (a p):=by
  intro i af;have e:aq (L.erase p) (aL p a i)=aq (L.erase p) (a i)-a i p/a p p*aq (L.erase p) (a p):=by rw[<-cn,<-dm];exact br λt _=>by grind
  erw[e,dK (a i) f,dK (a p) f,Yq];grind
 have m:=h.row p f;have E:∀{i},i∈L.erase p->0<=(-(a i p))*(a p p)⁻¹*aq L (a p):=by
  intro i af;let(eJ,bp):=mem af;have q:=h.off i bp p f eJ;exact Xf (Xf (by grind) (XJ l)) m
 refine{h.nodup.erase p,λi af j b o=>?_,λi af=>?_,λC r=>?_};have:=le af b;have:=h.off i (mem af).2 j (mem b).2 o;grind;rw[rows af];have:=h.row i (mem af).2;grind;intro k ak w;have y:=h.out (λx=>if x=p then∃i∈L.erase p,C i/\a i p≠0 else C x) ?_ k (mem ak).2;nofun;intro i af c;by_cases e:i=p;subst e;rw[WO rfl]at c;let(a6,m0,vH,UE):=c;let(fK,eW):=r a6 m0 vH;have z:=h.row a6 (mem m0).2;have A:(-(a a6 i))*(a i i)⁻¹*aq L (a i)=0:=by grind
 have B:aq L (a i)=0:=by
  rcases aam.mp A with h|h;grind;exact h
 refine{B,λj b d n=>?_};rw[WM d];by_cases g:j=a6;rwa[g];have D:=(WV h.nodup).mpr ⟨d,b⟩;have q:=h.off a6 (mem m0).2 i f (mem m0).1;have v:=h.off i f j b (XE d);have F:=h.off a6 (mem m0).2 j b (XE g);have G:0<(-(a a6 i))*(-(a i j)):=XR (by grind) (by grind);grind;rw[WM e]at c;have s:=(WV h.nodup).mpr ⟨e,af⟩;let(fK,eW):=r i s c;have z:=h.row i af;refine{by grind,λj b d n=>?_};by_cases g:j=p;subst g;rw[WO rfl];calc⟨i,s,c,n⟩;rw[WM g];have D:=(WV h.nodup).mpr ⟨g,b⟩;have:=h.off i af j b (XE d);grind
def sG(h:el L a)(c:p∈L):el (L.erase p) a:=by have mem:∀{j},j∈L.erase p->j≠p/\j∈L:=λd=>(WV h.nodup).mp d;refine{h.nodup.erase p,λi af j d=>h.off i (mem af).2 j (mem d).2,λi af=>?_,λC g i af b=>?_};have ae:=h.row i (mem af).2;rw[dK _ c]at ae;have:=h.off i (mem af).2 p c (mem af).1;grind;refine h.out (λx=>x≠p/\C x) (λi af b=>?_) i (mem af).2 {(mem af).1,b};have ae:=h.row i af;rw[dK _ c]at ae;have ag:=h.off i af p c b.1;refine{by rw[dK _ c];grind,λj d e f=>?_};grind
def ml:da el where
 nodup h:=h.nodup;pos h a8:=h.pos a8;off h af a' p3:=h.off _ af _ a' p3;aL h a8:=sF h a8;sub h a8:=sG h a8
def h7(a:aX):aX:=λi j=>a j i
def vI p a:h7 (aL p a)=aL p (h7 a):=by unfold h7 aL;grind
def mm(L:List Nat)(a:aX):Prop:=el L (h7 a)
def k8:da mm where
 nodup h:=el.nodup h;pos h a8:=el.pos (a:=h7 _) h a8;off h af a' p3:=el.off h _ a' _ af (XE p3);aL h a8:=by unfold mm;rw[vI];exact sF h a8
 sub h a8:=sG h a8
def dL:Nat->Nat|0=>1|n+1=>(n+1)*dL n
theorem p4:∀L(f:Nat->Rat)B,(∀s∈L,∃z:Int,f s=z/\z.natAbs<=B)->∃z:Int,aq L f=z/\z.natAbs<=L.length*B
 |[],f,B,_=>{0,rfl,by simp}|x::r,f,B,h=>by
  let(fK,cx,cp):=h x (WD ..);let(eW,dn,b4):=p4 r f B λs hs=>h s (WE _ hs);refine{fK+eW,by simp only[bu,cx,dn,X_],?_};erw[WL,Y8];calc W1 (Int.natAbs_add_le _ _) (Nat.add_comm B _▸Nat.add_le_add cp b4)
theorem mn(c:da G)(A:Nat->Nat->Int)(a:aX)(l:∀i j,a i j=A i j)M(R:Nat->Prop):∀k L,L.length=k->G L a->(∀s∈L,R s)->(∀i s,R i->s∈L->(A i s).natAbs<=M)->
  (∃z:Int,ds L a=z/\z.natAbs<=dL k*M^k)/\∀i j B,R i->(∀i,R i->(A i j).natAbs<=B)->∃z:Int,ds L a*els L a i j=z/\z.natAbs<=dL (k+1)*M^k*B
 |0,L,ak,h,d,f=>by have e:=Ye.mp ak;subst e;refine{{1,rfl,by simp[dL]},λi j B af g=>{A i j,?_,?_}};show 1*a i j=_;rw[l,Rat.one_mul];have:=g i af;simpa[dL]using this|k+1,L,ak,h,d,f=>by
  have n:∀s∈L,∀i j B,R i->(∀i,R i->(A i j).natAbs<=B)->∃z:Int,ds (L.erase s) a*els (L.erase s) a i j=z/\z.natAbs<=dL (k+1)*M^k*B:=λs hs=>(mn c A a l M R k (L.erase s) (by nofun) (c.sub h hs) (λt m=>d t (XI m)) λi t af m=>f i t af (XI m)).2;have hd:∃z:Int,ds L a=z/\z.natAbs<=dL (k+1)*M^(k+1):=by
   obtain⟨s,hs⟩:∃s,s∈L:=by
    cases L with
    |nil=>nofun
    |cons x r=>exact{x,WD ..}
   let(z,e,b):=n s hs s s M (d s hs) λi af=>f i s af hs;exact{z,by rw[p0 c h hs,e],by grind}
  refine{hd,λi j B af g=>?_};let(zY,mo,bd):=hd;let(zs,ay,bs):=p4 L (λs=>a i s*(ds (L.erase s) a*els (L.erase s) a s j)) (M*(dL (k+1)*M^k*B)) λs hs=>by
   let(z,e,b):=n s hs s j B (d s hs) g;refine{A i s*z,by nofun,?_};rw[XW];exact X3 (f i s af hs) b
  refine{zY*A i j-zs,by rw[vE c h,ay,mo,l,Yj,W6],?_};have o:(zY*A i j).natAbs<=dL (k+1)*M^(k+1)*B:=by rw[XW];exact X3 bd (g i af)
  have p:dL (k+1+1)*M^(k+1)*B=dL (k+1)*M^(k+1)*B+(k+1)*(dL (k+1)*M^(k+1)*B):=by show(k+1+1)*dL (k+1)*M^(k+1)*B=_;grind
  rw[ak,show M*(dL (k+1)*M^k*B)=dL (k+1)*M^(k+1)*B by grind]at bs;rw[p];generalize dL (k+1)*M^(k+1)*B=X at*;generalize(k+1)*X=Y at*;omega
open Vaprbq (Call Chain)
def n5(p:Int)(a row:List Int):Call->Prop|.load b=>p=0/\a=[]/\row=b.map (λx=>(x.toNat:Int))/\b.length<=8192|.shown=>p=1/\a=[]|.sizes=>p=2/\a=[]|.state i=>p=3/\a=[i]|.after i n=>p=4/\a=[i,n]|.come i j=>p=5/\a=[i,j]|.back j=>p=6/\a=[j]|.visits i j=>p=7/\a=[i,j]|.steps i t=>p=8/\a=[i]/\row=t/\t.length<=2000|.gain i=>p=9/\a=[i]|.classes=>p=10/\a=[]|.steady k=>p=11/\a=[k]|.long i=>p=12/\a=[i]|.period k=>p=13/\a=[k]
abbrev vJ:List Int:=[0,0,0,1,2,2,1,2,1,1,0,1,1,1]
theorem zZ c:PyVaprbq.whole c=c:=by
 rcases c with _|⟨_|⟨n|_,s⟩,t⟩
 rfl;rfl;iterate 14 (rcases n with _|n;·repeat' (first|rfl|(rcases s with _|⟨_,s⟩)|(rcases t with _|⟨_,t⟩)))
 rfl;rfl
def call_of(hs:shape p=some (n,k))(h:PyFlat.call shape (p::r)=some (c,t)):
  n<=r.length/\∃xs,PyFlat.rows k (r.drop n)=some (xs,t)/\c=(p::r.take n)::xs:=by
 unfold PyFlat.call at h;simp[hs]at h;split at h;nofun;nofun
def sH(h:PyFlat.rows 1 r=some (xs,t)):∃(m:Nat)(a:List Int),r=(m:Int)::a/\m<=a.length/\xs=[a.take m]/\t=a.drop m:=by
 cases r with|nil=>cases h|cons z a=>
  have ag:(match(if 0<=z/\z.toNat<=a.length then some (a.take z.toNat,a.drop z.toNat)else none)with|none=>none|some (x,s)=>some ([x],s))=some (xs,t):=h;by_cases b:0<=z/\z.toNat<=a.length;rw[WO b]at ag;cases ag;exact{z.toNat,a,by rw[Int.toNat_of_nonneg b.1],b.2,rfl,rfl};rw[WM b]at ag;cases ag
def Plain(p:Int)(r:List Int)(t:List Int)(k:Call)(j:Nat):Prop:=∃n:Nat,p=j/\j<14/\vJ[j]? =some (n:Int)/\n<=r.length/\((j≠0/\j≠8/\t=r.drop n/\n5 p (r.take n) [] k)\/((j=0\/j=8)/\∃m:Nat,r[n]? =some (m:Int)/\n+1+m<=r.length/\t=r.drop (n+1+m)/\n5 p (r.take n) ((r.drop (n+1)).take m) k))
def plain0(hs:shape p=some (0,k))(h:PyFlat.call shape (p::r)=some (c,t)):∃xs,PyFlat.rows k r=some (xs,t)/\c=[p]::xs:=by
 let(_,xs,ae,ag):=call_of hs h;nofun
def plain1(hs:shape p=some (1,k))(h:PyFlat.call shape (p::r)=some (c,t)):∃x a,r=x::a/\∃xs,PyFlat.rows k a=some (xs,t)/\c=[p,x]::xs:=by
 let(h0,xs,ae,ag):=call_of hs h;match r,h0 with|x::a,_=>grind
def plain2(hs:shape p=some (2,k))(h:PyFlat.call shape (p::r)=some (c,t)):∃x y a,r=x::y::a/\∃xs,PyFlat.rows k a=some (xs,t)/\c=[p,x,y]::xs:=by
 let(h0,xs,ae,ag):=call_of hs h;match r,h0 with|x::y::a,_=>grind
def vK(h:(b.all λz=>natural z 8)=true):NeutralIO.bytes b=true/\b=(bytesOf b).map (λx=>(x.toNat:Int)):=by
 have hz:∀z∈b,0<=z/\z<256:=λz hz=>by have q:=XD.mp h z hz;unfold natural at q;nofun
 refine{XD.mpr λz m=>?_,?_};grind;unfold bytesOf;rw[Xg];refine(Y_ b).symm.trans (Xs λz m=>?_);have:=hz z m;show z=((UInt8.ofNat z.toNat).toNat);rw[YZ (by nofun)];lia
def step_call(h:PyFlat.call shape (p::r)=some (c,t))(i:asked1 c=true):∃k j,callOf c=some k/\Plain p r t k j:=by
 by_cases l:p=0;subst l;let(xs,ae,rfl):=plain0 rfl h;let(m,a,rfl,n,rfl,rfl):=sH ae;have b:((a.take m).all (λz=>natural z 8)&&decide ((a.take m).length<=8192))=true:=i;erw[Xd,decide_eq_true_eq]at b;let(cp,b4):=vK b.1;refine({.load (bytesOf (a.take m)),0,WO cp,0,rfl,by decide,rfl,Xk _,.inr {.inl rfl,m,rfl,by grind,?_,rfl,rfl,b4,?_}});grind;grind;by_cases o:p=1;subst o;let(xs,ae,rfl):=plain0 rfl h;cases ae;exact({.shown,1,rfl,0,rfl,by decide,rfl,Xk _,.inl {by decide,by decide,rfl,rfl,rfl}});by_cases q:p=2;subst q;let(xs,ae,rfl):=plain0 rfl h;cases ae;exact({.sizes,2,rfl,0,rfl,by decide,rfl,Xk _,.inl {by decide,by decide,rfl,rfl,rfl}});by_cases s:p=3;subst s;let(x,a,rfl,xs,ae,rfl):=plain1 rfl h;cases ae;exact({.state x,3,rfl,1,rfl,by decide,rfl,by simp,.inl {by decide,by decide,rfl,rfl,rfl}});by_cases u:p=4;subst u;let(x,y,a,rfl,xs,ae,rfl):=plain2 rfl h;cases ae;exact({.after x y,4,rfl,2,rfl,by decide,rfl,by simp,.inl {by decide,by decide,rfl,rfl,rfl}});by_cases v:p=5;subst v;let(x,y,a,rfl,xs,ae,rfl):=plain2 rfl h;cases ae;exact({.come x y,5,rfl,2,rfl,by decide,rfl,by simp,.inl {by decide,by decide,rfl,rfl,rfl}});by_cases w:p=6;subst w;let(x,a,rfl,xs,ae,rfl):=plain1 rfl h;cases ae;exact({.back x,6,rfl,1,rfl,by decide,rfl,by simp,.inl {by decide,by decide,rfl,rfl,rfl}});by_cases A:p=7;subst A;let(x,y,a,rfl,xs,ae,rfl):=plain2 rfl h;cases ae;exact({.visits x y,7,rfl,2,rfl,by decide,rfl,by simp,.inl {by decide,by decide,rfl,rfl,rfl}});by_cases B:p=8;subst B;let(x,a,rfl,xs,ae,rfl):=plain1 rfl h;let(m,a,rfl,n,rfl,rfl):=sH ae;have b:(whole60 x&&((a.take m).all (λz=>whole60 z)&&decide ((a.take m).length<=2000)))=true:=i;erw[Xd,Xd,decide_eq_true_eq]at b;refine({.steps x (a.take m),8,rfl,1,rfl,by decide,rfl,by simp,.inr {.inr rfl,m,rfl,by grind,?_,rfl,rfl,rfl,b.2.2}});grind;by_cases C:p=9;subst C;let(x,a,rfl,xs,ae,rfl):=plain1 rfl h;cases ae;exact({.gain x,9,rfl,1,rfl,by decide,rfl,by simp,.inl {by decide,by decide,rfl,rfl,rfl}});by_cases d:p=10;subst d;let(xs,ae,rfl):=plain0 rfl h;cases ae;exact({.classes,10,rfl,0,rfl,by decide,rfl,Xk _,.inl {by decide,by decide,rfl,rfl,rfl}});by_cases e:p=11;subst e;let(x,a,rfl,xs,ae,rfl):=plain1 rfl h;cases ae;exact({.steady x,11,rfl,1,rfl,by decide,rfl,by simp,.inl {by decide,by decide,rfl,rfl,rfl}});by_cases f:p=12;subst f;let(x,a,rfl,xs,ae,rfl):=plain1 rfl h;cases ae;exact({.long x,12,rfl,1,rfl,by decide,rfl,by simp,.inl {by decide,by decide,rfl,rfl,rfl}});by_cases g:p=13;subst g;let(x,a,rfl,xs,ae,rfl):=plain1 rfl h;cases ae;exact({.period x,13,rfl,1,rfl,by decide,rfl,by simp,.inl {by decide,by decide,rfl,rfl,rfl}});have D:shape p=none:=by unfold shape;nofun
 unfold PyFlat.call at h;nofun
def Im(h:PyFlat.calls shape f (p::r)=some b):∃c t d a,PyFlat.call shape (p::r)=some (c,t)/\PyFlat.calls shape d t=some a/\b=c::a:=by
 cases f with|zero=>cases h|succ f=>unfold PyFlat.calls at h;grind
def Io(h:PyFlat.calls shape f []=some a):a=[]:=by cases f<;>(cases h;rfl)
def sI(a:List (List (List Int))):a.map PyVaprbq.whole=a:=by rw[show PyVaprbq.whole=id from funext zZ,Y_]
def z0(h:answers_asked l=true):∃a,PyFlat.calls shape l.length l=some a/\a.length<=400/\(∀c∈a,asked1 c=true)/\PyVaprbq.answers l=told (played VaprbqNeutral.step VaprbqNeutral.start a):=by
 unfold answers_asked PyVaprbq.calls at h;unfold PyVaprbq.answers PyVaprbq.calls;cases e:PyFlat.calls shape l.length l with|none=>nofun|some a=>rw[e]at h;dsimp only at h⊢;rw[sI]at h;erw[Xd]at h;have ae:=Zt h.1;have ag:=h.2;unfold VaprbqNeutral.asked at ag;rw[Xd]at ag;exact{a,rfl,ae,λc hc=>XD.mp ag.1 c hc,by rw[sI]}
open VaprbBase Vaprbq
structure aU(f:Frac):Prop where
 pos:0<f.den
 iF:Nat.Coprime f.num.natAbs f.den
def val(f:Frac):Rat:=f.num/((f.den:Int))
def dp:aU Frac.zero:={by decide,by decide}
def e_:aU Frac.one:={by decide,by decide}
def val_zero:val Frac.zero=0:=by show(0)/_=0;grind
def val_one:val Frac.one=1:=by show(1)/(1)=1;grind
def fm{d:Nat}(h:d≠0):((d:Int):Rat)≠0:=by nofun
def cast_pos{d:Nat}(h:0<d):0<((d:Int):Rat):=W7.mpr (by nofun)
def h8 n d:aU (frac n d):=by
 unfold frac;by_cases h:d=0;rw[WO h];calc dp;rw[WM h];have hd:=YJ h;have a:0<Nat.gcd n.natAbs d:=XY _ hd;refine{Y' (X8 hd (X4 ..)) a,?_};have e:(n/((Nat.gcd n.natAbs d))).natAbs=n.natAbs/Nat.gcd n.natAbs d:=by rw[Yh (XK.mpr (XN ..))];rfl
 erw[e];calc YR a
def hC n(h:d≠0):val (frac n d)=n/((d:Int)):=by
 unfold frac val;have hd:=YJ h;have b:0<Nat.gcd n.natAbs d:=XY _ hd;generalize a:Nat.gcd n.natAbs d=g at*;obtain⟨x,aB⟩:(g:Int)∣n:=by rw[<-a];exact XK.mpr (XN ..)
 obtain⟨y,aN⟩:g∣d:=by rw[<-a];exact X4 ..
 subst aB aN;rw[Xx _ (by lia),Za _ b];have c:=fm (Xr b);rw[WM h];grind
def z1(h:aU f):val f={f.num,f.den,Xr h.pos,h.iF}:=by rw[Rat.mk_eq_mkRat,Rat.mkRat_eq_div];rfl
def k9(a:aU f)(b:aU g)(h:val f=val g):f=g:=by erw[z1 a,z1 b]at h;cases f;cases g;nofun
def val_add(c:aU a)(d:aU b):val (a.add b)=val a+val b:=by have e:=fm (Xr c.pos);have f:=fm (Xr d.pos);unfold Frac.add;rw[hC _ (Xr (YM c.pos d.pos))];unfold val;grind
def Ip(b:aU a):aU a.neg:={b.pos,by show Nat.Coprime (-a.num).natAbs a.den;rw[Int.natAbs_neg];calc b.iF}
def val_neg a:val a.neg= -(val a):=by show((-a.num))/((a.den:Int))= -(a.num/((a.den:Int):Rat));grind
def k_(a b:Frac):aU (a.add b):=h8 _ _
def k'(a b:Frac):aU (a.sub b):=h8 _ _
def hD(a b:Frac):aU (a.mul b):=h8 _ _
def la(a b:Frac):aU (a.div b):=by unfold Frac.div;split;calc h8 _ _;calc h8 _ _
def val_sub(c:aU a)(d:aU b):val (a.sub b)=val a-val b:=by unfold Frac.sub;rw[val_add c (Ip d),val_neg];grind
def val_mul(c:aU a)(d:aU b):val (a.mul b)=val a*val b:=by unfold Frac.mul;rw[hC _ (Xr (YM c.pos d.pos))];unfold val;grind
def jZ(d:aU a)(g:aU b):val (a.div b)=val a/val b:=by
 unfold Frac.div;by_cases c:b.num=0;rw[WM (by nofun),c];have e:frac (a.num*b.den) (a.den*(0:Int).natAbs)=Frac.zero:=by rfl
 erw[e,val_zero];unfold val;erw[c,Xo];grind;have f:b.num.natAbs≠0:=by nofun
 have hd:=Xr (YM d.pos (YJ f));by_cases ae:b.num<0;rw[WO ae,hC _ hd];unfold val;have e:(b.num.natAbs)= -b.num:=by grind
 erw[Y0,e,W6,abe,W6];grind;rw[WM ae,hC _ hd];unfold val;grind
def gf(h:aU f):f.num=0↔val f=0:=by
 have a:=fm (Xr h.pos);unfold val;constructor;intro e;erw[e,Xo];grind;intro e;have:(f.num:Rat)=0:=by grind
 calc ZK.mp (this.trans Xo.symm)
def vL(h:aU f):0<f.num↔0<val f:=by have b:=cast_pos h.pos;unfold val;have a:=Y9.mpr b;constructor;calc λe=>XR (W7.mpr e) a;intro e;apply WR;intro c;have ae:0<=((-f.num:Int):Rat):=Yt.mpr (by nofun);have ag:=Xf ae (XJ a);grind
theorem p5:∀(l:List Frac)a,aU a->(∀f∈l,aU f)->aU (l.foldl Frac.add a)|[],a,b,_=>b|x::r,a,b,h=>p5 r _ (k_ a x) λf c=>h f (WE _ c)
def mq l(h:∀f∈l,aU f):aU (Frac.sum l):=p5 l _ dp h
theorem p6:∀l f a,aU a->(∀i∈l,aU (f i))->val ((l.map f).foldl Frac.add a)=val a+aq l λi=>val (f i)|[],f,a,_,_=>by show val a=val a+0;grind|x::r,f,a,b,h=>by show val ((r.map f).foldl Frac.add (a.add (f x)))=_;erw[p6 r f _ (k_ _ _) λi af=>h i (WE _ af),val_add b (h x (WD ..)),bu];grind
def p7 l f(h:∀i∈l,aU (f i)):val (Frac.sum (l.map f))=aq l (λi=>val (f i)):=by unfold Frac.sum;rw[p6 l f _ dp h,val_zero];grind
structure WF(n:Nat)(m:Matrix):Prop where
 len:m.length=n
 rows:∀(i:Nat)(r:List Frac),m[i]? =some r->r.length=n+1/\∀x∈r,aU x
def ev(m:Matrix)(i j:Nat):Rat:=val (entry m i j)
def jk(h:m[i]? =some r)(ag:r[j]? =some x):entry m i j=x:=by unfold entry;nofun
def gD(h:WF n m)(af:i<n):∃r,m[i]? =some r/\r.length=n+1/\(∀x∈r,aU x)/\∀j,j<n+1->r[j]? =some (entry m i j)/\aU (entry m i j):=by
 have hl:i<m.length:=by rwa[h.len]
 refine{m[i],WK hl,(h.rows i _ (WK hl)).1,(h.rows i _ (WK hl)).2,λj b=>?_};let(a1,a2):=h.rows i _ (WK hl);have a:j<m[i].length:=by rwa[a1]
 have e:=WK a;rw[jk (WK hl) e];nofun
def vM(h:WF n m)(ak:k<n)(b:a6<n)(hc:(List.range m.length).find? (λi=>decide (k<=i)&&(entry m i k).num !=0)=some a6):
  ∃p a,m[a6]? =some a/\p=a.map (λx=>x.div (entry m a6 k))/\∀i,i<n->(clear m k)[i]? =some (if i=k then p else rowMinus (entry m (if i=a6 then k else i) k) ((m[if i=a6 then k else i]?).getD []) p):=by
 have⟨a,iG,sJ,iH,p8⟩:=gD h b;refine{_,a,iG,rfl,λi af=>?_};unfold clear;rw[hc];erw[WG,abv];have⟨UF,UG,lk,UH,UI⟩:=gD h ak;by_cases e:i=k;(simp;grind);rw[X6 (XE e)];by_cases c:i=a6;grind;rw[X6 (XE c)];have⟨UJ,sK,li,Iq,j0⟩:=gD h af;grind
def n6 m k:(clear m k).length=m.length:=by unfold clear;split;rfl;simp
structure vN(n k a6:Nat)(m h9:Matrix):Prop where
 wf:WF n h9
 vO:ev m a6 k≠0
 top:∀j,j<n+1->ev h9 k j=ev m a6 j/ev m a6 k
 jl:∀i j,i<n->j<n+1->i≠k->ev h9 i j=ev m (if i=a6 then k else i) j-ev m (if i=a6 then k else i) k*(ev m a6 j/ev m a6 k)
def vP(h:WF n m)(ak:k<n)(hc:(List.range m.length).find? (λi=>decide (k<=i)&&(entry m i k).num !=0)=some a6):k<=a6/\a6<n/\vN n k a6 m (clear m k):=by
 have s:=abf hc;have o:=YF hc;rw[WN,h.len]at o;simp[Xd,decide_eq_true_eq,ZF,ne_eq]at s;let(p,r0,iG,z2,UK):=vM h ak o hc;let(UL,z3,sJ,iH,p8):=gD h o;rw[iG]at z3;cases z3;have t:=(p8 k (by lia)).2;have pp:∀j,j<n+1->p[j]? =some ((entry m a6 j).div (entry m a6 k)):=by nofun
 have pl:p.length=n+1:=by rwa[z2,WC]
 have pn:∀x∈p,aU x:=by
  intro x g;rw[z2]at g;let(y,_,e):=WT.mp g;rw[<-e];exact la _ _
 have v:∀i,i<n->i≠k->∃c,(m[if i=a6 then k else i]?)=some c/\c.length=n+1/\(∀j,j<n+1->c[j]? =some (entry m (if i=a6 then k else i) j)/\aU (entry m (if i=a6 then k else i) j))/\(clear m k)[i]? =some (rowMinus (entry m (if i=a6 then k else i) k) c p):=by
  intro i af l;have w:(if i=a6 then k else i)<n:=by split<;>assumption
  let(c,sK,li,Iq,j0):=gD h w;refine{c,sK,li,j0,?_};nofun
 have hz:∀f(a b)(j:Nat)(x y),a[j]? =some x->b[j]? =some y->(rowMinus f a b)[j]? =some (x.sub (f.mul y)):=by unfold rowMinus;grind
 refine{s.1,o,{{by simp only[n6,h.len],λi r u=>?_},?_,λj d=>?_,λi j af d l=>?_}};have af:i<n:=by have:=(WH.mp u).1;rwa[n6,h.len]at this
 by_cases e:i=k;(subst_vars;nofun);let(c,sK,li,j0,dn):=v i af e;rw[dn]at u;cases u;refine{by unfold rowMinus;simp only[Zb,li,pl,abP],λx g=>?_};unfold rowMinus at g;let(q,w,e):=abE g;rw[Zv]at e;rw[<-e];calc k' _ _;calc λe=>s.2 ((gf t).mpr e);unfold ev;rw[jk (by grind) (pp j d),jZ (p8 j d).2 t];let(c,sK,li,j0,dn):=v i af l;unfold ev;rw[jk dn (hz _ _ _ _ _ _ (j0 j d).1 (pp j d)),val_sub (j0 j d).2 (hD _ _),val_mul (j0 k (by lia)).2 (la _ _),jZ (p8 j d).2 t]
def g5(n:Nat)(y:Nat->Rat)(m:Matrix):Prop:=∀i,i<n->aq (List.range (n+1)) (λj=>ev m i j*y j)=0
def sL(ak:k<n)(e:a6<n)(c:vN n k a6 m a)(h:g5 n y a):g5 n y m:=by
 have f:=c.vO;have g:aq (List.range (n+1)) (λj=>ev m a6 j*y j)=0:=by
  have ae:=h k ak;have ag:aq (List.range (n+1)) (λj=>ev a k j*y j)=(ev m a6 k)⁻¹*aq (List.range (n+1)) (λj=>ev m a6 j*y j):=by rw[<-cn];refine br λj b=>?_;erw[c.top j (WN.mp b),Yq];grind
  grind
 have l:∀i,i<n->i≠k->aq (List.range (n+1)) (λj=>ev m (if i=a6 then k else i) j*y j)=0:=by
  intro i af d;have ae:=h i af;have ag:aq (List.range (n+1)) (λj=>ev a i j*y j)=aq (List.range (n+1)) (λj=>ev m (if i=a6 then k else i) j*y j)-ev m (if i=a6 then k else i) k*(ev m a6 k)⁻¹*aq (List.range (n+1)) (λj=>ev m a6 j*y j):=by rw[<-cn,<-dm];refine br λj b=>?_;erw[c.jl i j af (WN.mp b) d,Yq];grind
  grind
 intro i af;by_cases b:i=a6;rw[b];calc g;by_cases d:i=k;have:=l a6 e λz=>b (d.trans z.symm);rw[WO rfl,<-d]at this;calc this;have:=l i af d;rw[WM b]at this;calc this
structure mr(n k:Nat)(m:Matrix):Prop where
 wf:WF n m
 cols:∀i j,i<n->j<k->ev m i j=if i=j then 1 else 0
def gE:∀{l:List Nat}{f:Nat->Rat}{p:Nat},l.Nodup->p∈l->(∀i∈l,i≠p->f i=0)->aq l f=f p:=by
 intro l f p a b h;rw[dK f b,fk λi af=>by
  let(ae,ag):=(WV a).mp af;calc h i ag ae]
 grind
def p9(a:l.Nodup)(d:p∈l)(e:q∈l)(b:p≠q)(h:∀i∈l,i≠p->i≠q->f i=0):aq l f=f p+f q:=by
 erw[dK f d,gE (a.erase p) ((WV a).mpr ⟨b.symm,e⟩) λi af c=>by
  let(ae,ag):=(WV a).mp af;calc h i ag ae c]
def nodup_range n:(List.range n).Nodup:=List.nodup_range
theorem p_:∀(f k)m,f+k=n->mr n k m->(∀y,g5 n y m->y n=0->∀j,j<n->y j=0)->mr n n (cleared f k m)/\∀y,g5 n y (cleared f k m)->g5 n y m
 |0,k,m,B,a,_=>by
  have e:k=n:=by nofun
  subst e;calc{a,λy h=>h}|f+1,k,m,B,a,d=>by
  have ak:k<n:=by lia
  cases hc:(List.range m.length).find? (λi=>decide (k<=i)&&(entry m i k).num !=0)with|none=>
   have C:∀i,k<=i->i<n->ev m i k=0:=by
    intro i q af;have:=List.find?_eq_none.mp hc i (by rwa[WN,a.wf.len]);simp[Xd,decide_eq_true_eq,ZF,not_and,Decidable.not_not]at this;let(r,_,_,_,g):=gD a.wf af;exact(gf (g k (by lia)).2).mp (this q)
   have:=d (λj=>if j=k then 1 else if j<k then -(ev m j k)else 0) (λi af=>?_) (by grind) k ak;nofun;have x:k∈List.range (n+1):=WN.mpr (by lia);by_cases b:i<k;rw[p9 (p:=i) (nodup_range _) (WN.mpr (by lia)) x (by lia) λj A ae ag=>?_];simp[WM (show¬i=k by lia)];rw[a.cols i i af b,WO rfl];grind;simp[WM ag];by_cases s:j<k;rw[a.cols i j af s,WM (XE ae)];grind;grind;rw[gE (nodup_range _) x λj A ag=>?_];nofun;simp[WM ag];by_cases s:j<k;rw[a.cols i j af s,WM (by lia)];grind;grind|some a6=>
   let(cp,b4,c):=vP a.wf ak hc;have D:=c.vO;have t:mr n (k+1) (clear m k):=by
    refine{c.wf,λi j af A=>?_};by_cases u:j=k;subst u;by_cases l:i=j;subst l;rw[c.top i (by lia),WO rfl];grind;rw[c.jl i j af (by lia) l,WM l];grind;have o:j<k:=by lia
    have z:ev m a6 j=0:=by rw[a.cols a6 j b4 o,WM (by lia)]
    by_cases b:i=k;subst b;rw[c.top j (by lia),WM (by lia)];grind;rw[c.jl i j af (by lia) b,z];by_cases e:i=a6;rw[WO e,a.cols k j ak o,WM (by lia)];grind;rw[WM e,a.cols i j af o];grind
   let(r1,r2):=p_ f (k+1) (clear m k) (by lia) t λy v w=>d y (sL ak b4 c v) w;calc{r1,λy v=>sL ak b4 c (r2 y v)}
def vQ(h:WF n m)(a:∀y,g5 n y m->y n=0->∀j,j<n->y j=0):
  (solve m).length=n/\(∀(q:Nat)x,(solve m)[q]? =some x->aU x)/\g5 n (λj=>if j<n then val ((solve m)[j]?.getD Frac.zero)else -1) m:=by
 let(u,back):=p_ n 0 m (by nofun) {h,λi j _ c=>absurd c (by nofun)} a;have ay:solve m=(cleared n 0 m).map λr=>r[n]?.getD Frac.zero:=by unfold solve;rw[h.len]
 have b:∀q,q<n->(solve m)[q]? =some (entry (cleared n 0 m) q n)/\aU (entry (cleared n 0 m) q n):=by
  intro q d;let(r,e,_,_,g):=gD u.wf d;nofun
 have hl:(solve m).length=n:=by erw[ay,WC,u.wf.len]
 refine{hl,λq x f=>?_,back _ λi af=>?_};grind;rw[p9 (p:=i) (q:=n) (nodup_range _) (WN.mpr (by lia)) (WN.mpr (by nofun)) (by lia) λj c ae ag=>?_];rw[u.cols i i af af,WO rfl,WO af,WM (by nofun),(b i af).1];show 1*val (entry (cleared n 0 m) i n)+val (entry (cleared n 0 m) i n)* -1=0;grind;have:=WN.mp c;rw[u.cols i j af (by lia),WM (XE ae)];simp
theorem p':∀l g f,aq (l.map g) f=aq l λi=>f (g i)|[],_,_=>rfl|x::r,g,f=>by erw[WU,bu,bu,p' r]
theorem qa:∀(l m)f,aq (l++m) f=aq l f+aq m f|[],m,f=>by erw[hA];grind|x::r,m,f=>by erw[YN,bu,bu,qa r];grind
def sm_get l F:aq (List.range l.length) (λq=>F (l[q]?.getD 0))=aq l F:=by
 have e:(List.range l.length).map (λq=>l[q]?.getD 0)=l:=by apply XS;simp;nofun
 have:=p' (List.range l.length) (λq=>l[q]?.getD 0) F;nofun
def vR l(f y:Nat->Rat)(z:Nat->Rat)(h:∀(q i:Nat),l[q]? =some i->z i=y q)(g:Nat->Rat)(a:∀(q i:Nat),l[q]? =some i->g q=f i):aq (List.range l.length) (λq=>g q*y q)=aq l (λj=>f j*z j):=by simp only[<-sm_get l λj=>f j*z j];refine br λq b=>?_;grind
def lb(l:List Nat)(i:Nat):Nat:=(l.findIdx? λj=>j==i).getD 0
def qb{l:List Nat}(a:l.Nodup)(h:l[q]? =some i):l.findIdx? (λj=>j==i)=some q:=by
 rw[X9];let(ae,ag):=WH.mp h;refine{ae,by nofun,λj b=>?_};simp[YB,Xj];intro e;have:=(Zz a).mp (e.trans ag.symm);lia
def mu(a:l.Nodup){q i:Nat}(h:l[q]? =some i)xs:valueIn l xs i=xs[q]?.getD Frac.zero:=by unfold valueIn;rw[qb a h];rfl
def mv(h:i∉l)xs:valueIn l xs i=Frac.zero:=by
 unfold valueIn;rw[Zy.mpr λx a=>by rw[XP];calc λe=>h (by nofun)];rfl
def qc(f:l.Nodup)(g:Nat->Nat->Frac)(right:Nat->Frac)(A:∀i j,aU (g i j))(B:∀i,aU (right i))
  (n:∀z:Nat->Rat,(∀i∈l,aq l (λj=>val (g i j)*z j)=0)->∀i∈l,z i=0):
  (solve (l.map λi=>l.map (g i)++[right i])).length=l.length/\(∀i,aU (valueIn l (solve (l.map λi=>l.map (g i)++[right i])) i))/\
   ∀i∈l,aq l (λj=>val (g i j)*val (valueIn l (solve (l.map λi=>l.map (g i)++[right i])) j))=val (right i):=by
 generalize C:(l.map λi=>l.map (g i)++[right i])=m;have a:∀{p i:Nat},l[p]? =some i->m[p]? =some (l.map (g i)++[right i]):=by (subst_vars;nofun)
 have o:∀{p i q j:Nat},l[p]? =some i->l[q]? =some j->ev m p q=val (g i j):=by intro p i q j ae ag;unfold ev;have d:=(WH.mp ag).1;rw[jk (a ae) (by rw[YG (by nofun),WG,ag];rfl)]
 have s:∀{p i:Nat},l[p]? =some i->ev m p l.length=val (right i):=by intro p i ae;unfold ev;rw[jk (a ae) (by rw[X0 (by simp),WC,Z0];rfl)]
 have wf:WF l.length m:=by refine{by grind,λp r b=>?_};grind
 have c:∀(y:Nat->Rat)(z:Nat->Rat),(∀(q i),l[q]? =some i->z i=y q)->∀{p i:Nat},l[p]? =some i->
   aq (List.range (l.length+1)) (λj=>ev m p j*y j)=aq l (λj=>val (g i j)*z j)+val (right i)*y l.length:=by
  intro y z hz p i b;erw[Y1,qa,vR l (λj=>val (g i j)) y z hz (λq=>ev m p q) λq j d=>o b d,bu,hA,s b];grind
 have mem:∀{i},i∈l->∃p,l[p]? =some i:=λh=>Zm.mp h;have v:∀(y:Nat->Rat)(q i),l[q]? =some i->y (lb l i)=y q:=by intro y q i h;unfold lb;rw[qb f h];rfl
 let(s1,s2,s3):=vQ wf λy x t j w=>by
  have k:=n (λi=>y (lb l i)) (λi af=>by
   let(p,b):=mem af;have:=x p (WH.mp b).1;rw[c y (λi=>y (lb l i)) (v y) b,t]at this;grind) l[j] (Ze w)
  have e:=WK w;have:=v y j _ e;nofun
 have u:∀i,aU (valueIn l (solve m) i):=by
  intro i;by_cases af:i∈l;let(p,b):=mem af;rw[mu f b];grind;rw[mv af];exact dp
 refine{s1,u,λi af=>?_};let(p,b):=mem af;have ae:=s3 p (WH.mp b).1;rw[c _ (λj=>val (valueIn l (solve m) j)) (λq j d=>by rw[mu f d,WO (WH.mp d).1]) b,WM (by nofun)]at ae;grind
structure h_(n:Nat)(P:aX):Prop where
 nonneg:∀i j,0<=P i j
 sum:∀i,i<n->aq (List.range n) (P i)=1
 out:∀i j,i<n->n<=j->P i j=0
inductive Way(P:aX):Nat->Nat->Prop
 |here (i:Nat):Way P i i
 |step {i k j:Nat}:0<P i k->Way P k j->Way P i j
def Way.trans(h:Way P i j)(ag:Way P j k):Way P i k:=by
 induction h with|here=>omega|step e _ a=>calc .step e (a ag)
def Way.one(h:0<P i j):Way P i j:=.step h (.here j)
def Way.keep(h:Way P i j){C:Nat->Prop}(af:C i)(hs:∀a b,C a->0<P a b->C b):C j:=by
 induction h with|here=>omega|step e _ c=>grind
def h_.lt(a:h_ n P)(af:i<n)(h:0<P i j):j<n:=by apply WR;intro b;rw[a.out i j af (by nofun)]at h;nofun
def Way.lt(a:h_ n P)(h:Way P i j)(af:i<n):j<n:=h.keep af λ_ _ b e=>a.lt b e
def qd l p f:aq l f=aq (l.filter p) f+aq (l.filter λi=> !p i) f:=by
 induction l with|nil=>show(0:Rat)=0+0;grind|cons x r a=>
  cases h:p x with|true=>erw[XF h,bu,bu,a];grind|false=>rw[XT (by nofun),XF (by nofun),bu,bu,a];grind
theorem qe:∀{l m:List Nat}f,l.Nodup->m.Nodup->(∀i,i∈l↔i∈m)->aq l f=aq m f
 |[],m,f,_,a,h=>by
  cases m with
  |nil=>rfl|cons x r=>calc absurd ((h x).mpr (WD ..)) (by simp)
 |x::r,m,f,hl,a,h=>by
  have c:=(h x).mp (WD ..);erw[bu,dK f c];have b:=W3.mp hl;rw[qe f b.2 (a.erase x) λi=>by
   rw[WV a,<-h i,WW];constructor;grind;intro af;rcases af.2 with e|e;grind;calc e]
def hE(a:l.Nodup)(hl:∀i∈l,i<n)f:aq (List.range n) f=aq l f+aq ((List.range n).filter λi=> !l.contains i) f:=by erw[qd (List.range n) (λi=>l.contains i) f];congr 1;refine qe f (Xb _ (nodup_range n)) a λi=>?_;nofun
def g6(a:l.Nodup)(af:i∈l)(f:Nat->Rat):aq l (λj=>(if i=j then 1 else 0)*f j)=f i:=by rw[gE a af λj _ b=>by grind,WO rfl];simp
def lg(b:h_ n P)(g:l.Nodup)(hl:∀i∈l,i<n){t:Nat->Rat}(h:∀i∈l,0<t i)
  (p:∀i∈l,∀j∈l,a i j=t i*((if i=j then 1 else 0)-P i j)) (out:∀i∈l,∃j,j∉l/\Way P i j):el l a:=by
 have rows:∀i∈l,aq l (a i)=t i*aq ((List.range n).filter λi=> !l.contains i) (P i):=by
  intro i af;have e:aq l (a i)=aq l (λj=>t i*((if i=j then 1 else 0)*1-P i j)):=br λj d=>by nofun
  erw[e,cn,dm,g6 g af λ_=>1];have:=b.sum i (hl i af);rw[hE g hl]at this;grind
 refine{g,λi af j d k=>?_,λi af=>?_,λC q i af m=>?_};rw[p i af j d,WM k];have:=Xf (XJ (h i af)) (b.nonneg i j);grind;rw[rows i af];calc Xf (XJ (h i af)) ((λi=>gC λj _=>b.nonneg i j) i);let(j,d,w):=out i af;refine d (w.keep (C:=λx=>x∈l/\C x) ⟨af,m⟩ λx y f c=>?_).1;let(fK,eW):=q x f.1 f.2;have r:=h x f.1;have u:aq ((List.range n).filter λi=> !l.contains i) (P x)=0:=by grind
 have o:y∈l:=by apply WR;intro s;have:=hB (l:=(List.range n).filter λi=> !l.contains i) (λj _=>b.nonneg x j) y (WY.mpr {WN.mpr (b.lt (hl x f.1) c),by nofun});grind
 refine{o,?_};by_cases e:y=x;nofun;refine eW y o e ?_;have:=XR r c;grind
def ia(P:aX)(l:List Nat)(r x:Nat->Rat):Prop:=∀i∈l,x i=r i+aq l λj=>P i j*x j
def lh(a:l.Nodup):ia P l r x↔∀i∈l,aq l (λj=>((if i=j then 1 else 0)-P i j)*x j)=r i:=by
 have e:∀i∈l,aq l (λj=>((if i=j then 1 else 0)-P i j)*x j)=x i-aq l (λj=>P i j*x j):=by intro i af;rw[<-g6 a af x,<-dm];grind
 constructor;intro h i af;rw[e i af,h i af];grind;intro h i af;grind
def sM(a:h_ n P)(b:l.Nodup)(hl:∀i∈l,i<n)(out:∀i∈l,∃j,j∉l/\Way P i j):el l (λi j=>(if i=j then 1 else 0)-P i j):=
 lg a b hl (t:=λ_=>1) (λ_ _=>by rfl) (λi _ j _=>by simp) out
def j1(b:h_ n P)(a:l.Nodup)(hl:∀i∈l,i<n)(out:∀i∈l,∃j,j∉l/\Way P i j)(c:ia P l r x)(d:ia P l r y):∀i∈l,x i=y i:=
 λi af=>mj ml (sM b a hl out) ((lh a).mp c) ((lh a).mp d) af
def sN(b:h_ n P)(a:l.Nodup)(hl:∀i∈l,i<n)(out:∀i∈l,∃j,j∉l/\Way P i j)(c:ia P l r x)(e:∀i∈l,0<=r i):∀i∈l,0<=x i:=by
 intro i af;have d:∀i∈l,∀j∈l,(λi j=>if j=n then r i else(if i=j then 1 else 0)-P i j) i j=(λ_=>1) i*((if i=j then 1 else 0)-P i j):=by grind
 have R:=lg b a hl (λ_ _=>by rfl) d out;refine n4 ml R (j:=n) (λi af=>?_) (λi af=>?_) af;show _=if n=n then r i else _;rw[WO rfl,<-(lh a).mp c i af];refine br λj f=>?_;grind;nofun
theorem eA:∀(a b:List Nat),a.Nodup->(∀x∈a,x∈b)->a.length<=b.length
 |[],b,_,_=>Xk _|x::r,b,f,h=>by
  have d:=h x (WD ..);have c:=W3.mp f;have:=eA r (b.erase x) c.2 λy g=>by rw[abw λe=>c.1 (by nofun)];exact h y (WE _ g)
  rw[ZG d]at this;have:=Zg d;rw[WL];lia
def gF(n:Nat)(e:Nat->Nat->Bool)(l:List Nat):List Nat:=(List.range n).filter λj=>l.contains j||l.any λi=>e i j
def e'(n:Nat)(e:Nat->Nat->Bool):Nat->List Nat->List Nat|0,l=>l|k+1,l=>e' n e k (gF n e l)
def fL:j∈gF n e l↔j<n/\(j∈l\/∃i∈l,e i j=true):=by unfold gF;simp
def qf n e l:(gF n e l).Nodup:=Xb _ (nodup_range n)
theorem iI:∀k l,l.Nodup->(∀i∈l,i<n)->(e' n e k l).Nodup/\(∀i∈e' n e k l,i<n)/\∀i∈l,i∈e' n e k l
 |0,l,a,h=>{a,h,λ_ af=>af}|k+1,l,a,h=>by
  let(a1,a2,gg):=iI (e:=e) k (gF n e l) (qf ..) λi af=>(fL.mp af).1;calc{a1,a2,λi af=>gg i (fL.mpr {h i af,.inl af})}
def lj(n:Nat)(e:Nat->Nat->Bool)(l:List Nat):Prop:=∀i∈l,∀j,j<n->e i j=true->j∈l
theorem qg:∀k l,(∀i∈l,i<n)->lj n e l->lj n e (e' n e k l)
 |0,l,_,h=>h|k+1,l,hl,h=>qg k (gF n e l) (λi af=>(fL.mp af).1) λi af j b a=>by
  let(ae,ag):=fL.mp af;have:i∈l:=by
   rcases ag with ag|⟨x,c,d⟩;omega;exact h x c i ae d
  calc fL.mpr {b,.inl (h i this j b a)}
theorem qh:∀k l,l.Nodup->(∀i∈l,i<n)->n<=k+l.length->lj n e (e' n e k l)
 |0,l,c,hl,ak=>by
  intro i af j d a;apply WR;intro b;have:=eA (j::l) (List.range n) (W3.mpr ⟨b,c⟩) λx aB=>by
   rcases WW.mp aB with e|aB;nofun;nofun
  erw[WL,W0]at this;lia|k+1,l,c,hl,ak=>by
  by_cases h:lj n e l;calc qg (k+1) l hl h;have:∃i∈l,∃j,j<n/\e i j=true/\j∉l:=by apply WR;refine λaB=>h λi af j d a=>?_;grind
  let(i,af,j,d,a,b):=this;refine qh k (gF n e l) (qf ..) (λi af=>(fL.mp af).1) ?_;have:=eA (j::l) (gF n e l) (W3.mpr ⟨b,c⟩) λx aB=>by
   rcases WW.mp aB with e|aB;erw[e];calc fL.mpr {d,.inr ⟨i,af,a⟩};exact fL.mpr {hl x aB,.inl aB}
  grind
theorem qi(a:∀i j,e i j=true->0<P i j):∀k l j,j∈e' n e k l->∃i∈l,Way P i j
 |0,l,j,h=>{j,h,.here j}|k+1,l,j,h=>by
  let(i,af,w):=qi a k (gF n e l) j h;let(ae,ag):=fL.mp af;rcases ag with ag|⟨x,b,c⟩;grind;calc{x,b,.step (a x i c) w}
def sO(lt:∀i j,i<n->0<P i j->j<n)(f:∀i j,e i j=true↔0<P i j)(af:i<n):j∈e' n e n [i]↔Way P i j:=by
 have ae:[i].Nodup:=by simp
 have ag:∀x∈ [i],x<n:=λx g=>by rwa[WQ.mp g]
 constructor;intro h;let(x,g,w):=qi (λi j=>(f i j).mp) n [i] j h;nofun;intro h;have c:=qh (e:=e) n [i] ae ag (by nofun);have m:=(iI (e:=e) n [i] ae ag).2.2 i (WQ.mpr rfl);calc h.keep m λa b k d=>c a k b (lt a b ((iI n [i] ae ag).2.1 a k) d) ((f a b).mpr d)
def ar(c:Chain):aX:=λi j=>val (chance c i j)
structure ba(c:Chain):Prop where
 bc:h_ c.size (ar c)
 nm:∀i j,aU (chance c i j)
 mw:∀i,i<c.size->isEnd c i=true->ar c i i=1
def ib(h:ba c)(i j):decide (0<(chance c i j).num)=true↔0<ar c i j:=by rw[decide_eq_true_eq];calc vL (h.nm i j)
theorem n7 c:∀k l,grown c k l=e' c.size (λi j=>decide (0<(chance c i j).num)) k l|0,l=>rfl|k+1,l=>n7 c k _
def gG(h:ba c)(af:i<c.size):j∈reach c i↔Way (ar c) i j:=by unfold reach;rw[n7];calc sO (λi j af=>h.bc.lt af) (ib h) af
def dC(h:ba c)(af:i<c.size):reaches c i j=true↔Way (ar c) i j:=by unfold reaches;rw[WX];calc gG h af
def halt(t:List Nat)(P:aX):aX:=λi j=>if t.contains i=true then 0 else P i j
theorem mx c t:∀k l,grownBefore c t k l=e' c.size (λi j=> !t.contains i&&decide (0<(chance c i j).num)) k l|0,l=>rfl|k+1,l=>mx c t k _
def ll:0<halt t P i j↔i∉t/\0<P i j:=by unfold halt;grind
def z4(h:ba c)t(af:i<c.size):j∈grownBefore c t c.size [i]↔Way (halt t (ar c)) i j:=by rw[mx];refine sO (λi j af a=>h.bc.lt af (ll.mp a).2) (λi j=>?_) af;rw[ll,Xd,ib h,XB,<-Xj,WX]
def vS  t  (af:i<c.size):(grownBefore c t c.size [i]).Nodup/\∀x∈grownBefore c t c.size [i],x<c.size:=by
 rw[mx];let(a,b,_):=iI (n:=c.size) (e:=λi j=> !t.contains i&&decide (0<(chance c i j).num)) c.size [i] (by simp) λx d=>by rw[WQ.mp d];exact af
 calc⟨a,b⟩
def my(h:Way (halt t P) i j):Way P i j:=by
 induction h with|here=>calc .here _|step e _ a=>calc .step (ll.mp e).2 a
def qj(h:ba c)(a:l.Nodup)(hl:∀i∈l,i<c.size)(out:∀i∈l,∃j,j∉l/\Way (ar c) i j)right(d:∀i,aU (right i)):
  (∀i,aU (valueIn l (solveOver c l right) i))/\ia (ar c) l (λi=>val (right i)) (λi=>val (valueIn l (solveOver c l right) i)):=by
 have b:∀i j,val ((if i=j then Frac.one else Frac.zero).sub (chance c i j))=(if i=j then 1 else 0)-ar c i j:=by intro i j;rw[val_sub (by split;calc e_;calc dp) (h.nm i j)];by_cases e:i=j;rw[WO e,WO e,val_one];rfl;rw[WM e,WM e,val_zero];rfl
 let(_,s2,s3):=qc a (λi j=>(if i=j then Frac.one else Frac.zero).sub (chance c i j)) right (λi j=>k' _ _) d λz hz i af=>by
  have:=mj ml (sM h.bc a hl out) (y:=λ_=>0) (λi af=>by have:=hz i af;simp[b]at this;calc this) (λi af=>fk λj _=>by simp) af;exact this
 refine{s2,(lh a).mpr λi af=>?_};have:=s3 i af;simp[b]at this;calc this
def aI(c:Chain)(i j:Nat):Rat:=val (Vaprbq.come c i j)
def b5(c:Chain)(j:Nat):List Nat:=(numbers c).filter λs=>s !=j&&reaches c s j
def cQ(h:ba c):s∈b5 c j↔s<c.size/\s≠j/\Way (ar c) s j:=by unfold b5 numbers;rw[WY,WN,Xd,ZF];constructor;intro⟨a,b,d⟩;calc{a,b,(dC h a).mp d};intro⟨a,b,d⟩;calc{a,b,(dC h a).mpr d}
def ic c j:(b5 c j).Nodup:=Xb _ (nodup_range _)
def jm(h:ba c)j:∀i∈b5 c j,∃k,k∉b5 c j/\Way (ar c) i k:=
 λi af=>{j,λa=>((cQ h).mp a).2.1 rfl,((cQ h).mp af).2.2}
def n8(a:i≠j):Vaprbq.come c i j=valueIn (b5 c j) (solveOver c (b5 c j) λs=>chance c s j) i:=by unfold Vaprbq.come;rw[WM a];rfl
def j2(h:ba c)j:(∀i,aU (Vaprbq.come c i j))/\ia (ar c) (b5 c j) (λs=>ar c s j) (λs=>aI c s j):=by
 let(a1,a2):=qj h (ic c j) (λi af=>((cQ h).mp af).1) (jm h j) (λs=>chance c s j) λi=>h.nm i j;constructor;intro i;by_cases e:i=j;unfold Vaprbq.come;rw[WO e];calc e_;rw[n8 e];calc a1 i;intro i af;have a:∀k∈b5 c j,aI c k j=val (valueIn (b5 c j) (solveOver c (b5 c j) λs=>chance c s j) k):=λk ak=>by unfold aI;rw[n8 ((cQ h).mp ak).2.1]
 show aI c i j=ar c i j+aq (b5 c j) λk=>ar c i k*aI c k j;rw[a i af];refine(a2 i af).trans ?_;congr 1;exact br λk ak=>by erw[a k ak]
def fU(h:ba c)(i j):aU (Vaprbq.come c i j):=(j2 h j).1 i
def eX c j:aI c j j=1:=by unfold aI Vaprbq.come;rw[WO rfl,val_one]
def fo(h:ba c)(a:¬Way (ar c) i j):aI c i j=0:=by unfold aI;rw[n8 λe=>a (by rw[e];calc .here j),mv λaf=>a ((cQ h).mp af).2.2,val_zero]
def n9(h:ba c)(a:j<c.size){x:Nat->Rat}(d:x j=1)(e:∀k,k<c.size->¬Way (ar c) k j->x k=0):
  aq (List.range c.size) (λk=>ar c i k*x k)=ar c i j+aq (b5 c j) (λk=>ar c i k*x k):=by
 rw[hE (ic c j) λi af=>((cQ h).mp af).1];rw[gE (Xb _ (nodup_range _)) (WY.mpr {WN.mpr a,by rw[XB,<-Xj,WX];calc λz=>((cQ h).mp z).2.1 rfl}) λk ak b=>?_];grind;let(k1,k2):=WY.mp ak;rw[XB,<-Xj,WX,cQ h]at k2;nofun
def j3(h:ba c)(af:i<c.size)(d:j<c.size)(a:i≠j):aI c i j=aq (List.range c.size) (λk=>ar c i k*aI c k j):=by
 by_cases b:Way (ar c) i j;rw[n9 h d (x:=λk=>aI c k j) (eX c j) λk _ ak=>fo h ak];calc(j2 h j).2 i ((cQ h).mpr ⟨af,a,b⟩);rw[fo h b,fk λk _=>?_];by_cases e:0<ar c i k;rw[fo h λw=>b (.step e w)];simp;have:=h.bc.nonneg i k;have:ar c i k=0:=by grind
 nofun
def sP(h:ba c)(f:j<c.size){x:Nat->Rat}(b:x j=1)(d:∀k,k<c.size->¬Way (ar c) k j->x k=0)
  (ae:∀i,i<c.size->i≠j->Way (ar c) i j->x i=aq (List.range c.size) λk=>ar c i k*x k):∀i,i<c.size->x i=aI c i j:=by
 intro i af;by_cases e:i=j;erw[e,b,eX];by_cases a:Way (ar c) i j;refine j1 h.bc (ic c j) (λi af=>((cQ h).mp af).1) (jm h j) (λk ak=>?_) (j2 h j).2 i ((cQ h).mpr ⟨af,e,a⟩);have⟨k1,k2,k3⟩:=(cQ h).mp ak;erw[ae k k1 k2 k3,n9 h f b d];rw[d i af a,fo h a]
def sQ(h:ba c)(af:i<c.size):0<=aI c i j:=by by_cases e:i=j;rw[e,eX];rfl;by_cases a:Way (ar c) i j;calc sN h.bc (ic c j) (λi af=>((cQ h).mp af).1) (jm h j) (j2 h j).2 (λk _=>h.bc.nonneg k j) i ((cQ h).mpr ⟨af,e,a⟩);rw[fo h a];simp
def qk(h:ba c)(af:i<c.size)(g:j<c.size):aI c i j<=1:=by
 by_cases e:i=j;rw[e,eX];simp;by_cases b:Way (ar c) i j;have:=sN h.bc (ic c j) (λi af=>((cQ h).mp af).1) (jm h j) (x:=λk=>1-aI c k j) (r:=λk=>1-ar c k j-aq (b5 c j) (ar c k)) (λk ak=>?_) (λk ak=>?_) i ((cQ h).mpr ⟨af,e,b⟩);grind;have ae:=(j2 h j).2 k ak;have ag:aq (b5 c j) (λq=>ar c k q*(1-aI c q j))=aq (b5 c j) (ar c k)-aq (b5 c j) (λq=>ar c k q*aI c q j):=by rw[<-dm];grind
 grind;have ae:=n9 h (i:=k) g (x:=λq=>if q=j then 1 else if q∈b5 c j then 1 else 0) (by simp) λq l a=>by rw[WM λe=>a (by rw[e];calc .here j),WM λm=>a ((cQ h).mp m).2.2]
 have ag:aq (b5 c j) (λq=>ar c k q*(if q=j then 1 else if q∈b5 c j then 1 else 0))=aq (b5 c j) (ar c k):=br λq l=>by nofun
 have n:=h.bc.sum k ((cQ h).mp ak).1;have o:aq (List.range c.size) (λq=>ar c k q*(if q=j then 1 else if q∈b5 c j then 1 else 0))<=aq (List.range c.size) (ar c k):=sD λq _=>by have:=h.bc.nonneg k q;by_cases d:q=j;rw[WO d];grind;rw[WM d];by_cases f:q∈b5 c j;rw[WO f];grind;rw[WM f];nofun
 grind;rw[fo h b];rfl
def vT(h:∀i∈l,0<=f i)(ag:aq l f=0):∀i∈l,f i=0:=by intro i af;have a:=hB h i af;grind
def ql{p x:Rat}(a:0<p)(h:p*x=0):x=0:=by grind
def vU(h:ba c)(af:i<c.size)(l:j<c.size)(m:Way (ar c) i j):0<aI c i j:=by
 apply WR;intro o;have n:aI c i j=0:=by have:=sQ h (j:=j) af;grind
 have:=m.keep (C:=λx=>x<c.size/\aI c x j=0) ⟨af,n⟩ λa b f d=>by
  have g:=h.bc.lt f.1 d;refine{g,?_};have e:a≠j:=λe=>by have:=f.2;rw[e,eX]at this;nofun
  have ae:=j3 h f.1 l e;rw[f.2]at ae;exact ql d (vT (λk ak=>Xf (h.bc.nonneg a k) (sQ h (WN.mp ak))) ae.symm b (WN.mpr g))
 rw[eX]at this;nofun
def z5(h:ba c)(af:i<c.size)(a:j<c.size):aI c i j=0↔¬Way (ar c) i j:=
 {λe w=>by have:=vU h af a w;nofun,λw=>fo h w}
def c4(P:aX)(j:Nat):Prop:=∀k,Way P j k->Way P k j
def mz(h:ba c)(b:j<c.size)(f:c4 (ar c) j)(g:Way (ar c) j i):aI c i j=1:=by
 by_cases e:i=j;erw[e,eX];have a:∀k,k∈(numbers c).filter (λk=>k !=j&&reaches c j k)↔k≠j/\Way (ar c) j k:=by intro k;unfold numbers;rw[WY,WN,Xd,ZF,dC h b];exact{λz=>z.2,λz=>{z.2.lt h.bc b,z}}
 have nd:((numbers c).filter λk=>k !=j&&reaches c j k).Nodup:=Xb _ (nodup_range _);generalize(numbers c).filter (λk=>k !=j&&reaches c j k)=K at a nd;have lt:=λk ak=>((a k).mp ak).2.lt h.bc b;have split:∀(x:Nat->Rat),x j=1->∀k∈K,aq (List.range c.size) (λq=>ar c k q*x q)=ar c k j+aq K (λq=>ar c k q*x q):=by
  intro x l k ak;rw[hE nd lt,gE (Xb _ (nodup_range _)) (WY.mpr {WN.mpr b,by nofun}) λq m d=>?_,l];grind;let(fp,eB):=WY.mp m;rw[XB,<-Xj,WX,a]at eB;by_cases n:0<ar c k q;calc absurd {d,((a k).mp ak).2.trans (.one n)} eB;have:=h.bc.nonneg k q;have:ar c k q=0:=by grind
  nofun
 refine(j1 h.bc nd lt (λk ak=>{j,λz=>((a j).mp z).1 rfl,f k ((a k).mp ak).2}) (r:=λk=>ar c k j) (x:=λk=>aI c k j) (y:=λ_=>1) (λk ak=>?_) (λk ak=>?_) i ((a i).mpr ⟨e,g⟩));show aI c k j=ar c k j+aq K λq=>ar c k q*aI c q j;erw[j3 h (lt k ak) b ((a k).mp ak).1,split (λq=>aI c q j) (eX c j) k ak];have ae:=split (λ_=>1) rfl k ak;have ag:=(br λq _=>Rat.mul_one _).trans (h.bc.sum k (lt k ak));nofun
def bk(c:Chain)(j:Nat):Rat:=val (Vaprbq.back c j)
def n_(h:ba c)j:aU (Vaprbq.back c j):=by
 unfold Vaprbq.back;split;calc dp;refine mq _ λf a=>?_;let(k,_,e):=WT.mp a;rw[<-e];calc hD _ _
def n'(a:isEnd c j=true):bk c j=0:=by unfold bk Vaprbq.back;rw[WO a,val_zero]
def lm(h:ba c)(a:¬isEnd c j=true):bk c j=aq (List.range c.size) (λk=>ar c j k*aI c k j):=by unfold bk Vaprbq.back;rw[WM a];rw[p7 _ _ λk _=>hD _ _];calc br λk _=>val_mul (h.nm j k) (fU h k j)
def mA(h:ba c)(f:j<c.size)(l:¬isEnd c j=true):bk c j=1↔c4 (ar c) j:=by
 rw[lm h l];have g:∀a,a<c.size->aq (List.range c.size) (λk=>ar c a k*(1-aI c k j))=1-aq (List.range c.size) (λk=>ar c a k*aI c k j):=by
  intro a d;have m:aq (List.range c.size) (λk=>ar c a k*(1-aI c k j))=aq (List.range c.size) (λk=>ar c a k-ar c a k*aI c k j):=br λk _=>by grind
  erw[m,dm,h.bc.sum a d]
 have n:∀a,∀k∈List.range c.size,0<=ar c a k*(1-aI c k j):=λa k ak=>Xf (h.bc.nonneg a k) (by have:=qk h (WN.mp ak) f;grind);constructor;intro e k ak;have:=ak.keep (C:=λx=>x<c.size/\aI c x j=1) {f,eX c j} λa b d i=>by
  have o:=h.bc.lt d.1 i;have ae:aq (List.range c.size) (λk=>ar c a k*(1-aI c k j))=0:=by rw[g a d.1];by_cases p:a=j;grind;rw[<-j3 h d.1 f p,d.2];grind
  have:=ql i (vT (n a) ae b (WN.mpr o));grind
 apply WR;intro q;rw[fo h q]at this;nofun;intro r;have ae:=g j f;rw[fk λk ak=>?_]at ae;grind;by_cases s:0<ar c j k;rw[mz h f r (.one s)];grind;have:=h.bc.nonneg j k;grind
def z6(h:ba c)(a:j<c.size):bk c j<=1:=by by_cases b:isEnd c j=true;rw[n' b];rfl;simp only[lm h b,<-h.bc.sum j a];exact sD λk ak=>by have ae:=h.bc.nonneg j k;have ag:0<=ar c j k*(1-aI c k j):=Xf ae (by have:=qk h (WN.mp ak) a;grind);grind
def fa(c:Chain)(i j:Nat):Prop:=Way (ar c) i j/\c4 (ar c) j/\¬isEnd c j=true
def sR(h:ba c)(af:i<c.size)(b:j<c.size)(a:fa c i j):Vaprbq.visits c i j=none:=by unfold Vaprbq.visits;rw[WM λz=>absurd ((gf (fU h i j)).mp z) (by have:=vU h af b a.1;unfold aI at this;grind)];rw[WO];refine k9 (n_ h j) e_ ?_;rw[val_one];calc(mA h b a.2.2).mpr a.2.1
def sS(h:ba c)(af:i<c.size)(d:j<c.size)(g:¬fa c i j):∃v,Vaprbq.visits c i j=some v/\aU v/\val v=aI c i j/(1-bk c j)/\(Way (ar c) i j->bk c j<1):=by
 have f:Way (ar c) i j->bk c j≠1:=by intro a e;by_cases ae:isEnd c j=true;rw[n' ae]at e;nofun;exact g {a,(mA h d ae).mp e,ae}
 unfold Vaprbq.visits;by_cases b:(Vaprbq.come c i j).num=0;rw[WO b];have:aI c i j=0:=(gf (fU h i j)).mp b;refine{_,rfl,dp,?_,λw=>absurd ((z5 h af d).mp this) (by nofun)};rw[val_zero,this];grind;rw[WM b];have a:Way (ar c) i j:=by apply WR;exact λa=>b ((gf (fU h i j)).mpr (fo h a))
 have k:=f a;rw[WM λe=>k (by unfold bk;rw[e,val_one])];refine{_,rfl,la _ _,?_,λ_=>by have:=z6 h d;grind};rw[jZ (fU h i j) (k' _ _),val_sub e_ (n_ h j),val_one];rfl
def fM(c:Chain)(t:List Nat)(i:Nat):Prop:=∃s,Way (halt t (ar c)) i s/\∀x∈t,¬Way (ar c) s x
def ahead(c:Chain)(t:List Nat)(i:Nat):List Nat:=(grownBefore c t c.size [i]).filter λs=> !t.contains s
def fN(h:ba c)(af:i<c.size):s∈ahead c t i↔Way (halt t (ar c)) i s/\s∉t:=by unfold ahead;rw[WY,z4 h t af,XB,<-Xj,WX]
def sT(h:ba c)(af:i<c.size):((ahead c t i).all λs=>t.any λx=>reaches c s x)=false↔fM c t i:=by
 rw[<-Xj,XD];constructor;intro a;apply WR;refine λd=>a λs hs=>?_;rw[Yy];apply WR;intro hz;let(s1,b):=(fN h af).mp hs;have hl:=(my s1).lt h.bc af;calc d {s,s1,λx a w=>hz {x,a,(dC h hl).mpr w}};intro⟨s,s1,b⟩ a;have hl:=(my s1).lt h.bc af;have hs:=λm=>b s m (.here s);let(x,gh,mB):=Yy.mp (a s ((fN h af).mpr ⟨s1,hs⟩));calc b x gh ((dC h hl).mp mB)
def oa c i t:stepsTo c i t=if((ahead c t i).all λs=>t.any λx=>reaches c s x)=false then none else some (valueIn (ahead c t i) (solveOver c (ahead c t i) λ_=>Frac.one) i):=rfl
def Ir(h:ba c)(af:i<c.size)(a:fM c t i):stepsTo c i t=none:=by rw[oa,WO ((sT h af).mpr a)]
def z7(h:ba c)(af:i<c.size)(b:¬fM c t i){x:Nat->Rat}(d:∀k∈t,x k=0)
  (f:∀k,k<c.size->k∉t->Way (halt t (ar c)) i k->x k=1+aq (List.range c.size) λq=>ar c k q*x q):∃v,stepsTo c i t=some v/\aU v/\val v=x i:=by
 rw[oa,WM λz=>b ((sT h af).mp z)];have nd:(ahead c t i).Nodup:=Xb _ (vS t af).1;have lt:∀k∈ahead c t i,k<c.size:=λk ak=>(my ((fN h af).mp ak).1).lt h.bc af;have out:∀k∈ahead c t i,∃j,j∉ahead c t i/\Way (ar c) k j:=by intro k ak;apply WR;exact λhz=>b {k,((fN h af).mp ak).1,λg n w=>hz {g,λm=>((fN h af).mp m).2 n,w}}
 let(s1,s2):=qj h nd lt out (λ_=>Frac.one) λ_=>e_;refine{_,rfl,s1 i,?_};by_cases a:i∈t;erw[mv λm=>((fN h af).mp m).2 a,val_zero,d i a];refine j1 h.bc nd lt out s2 (λk ak=>?_) i ((fN h af).mpr {.here i,a});let(k1,k2):=(fN h af).mp ak;rw[f k (lt k ak) k2 k1,hE nd lt,fk (l:=(List.range c.size).filter _) λq o=>?_,val_one];grind;let(fp,eB):=WY.mp o;rw[XB,<-Xj,WX,fN h af]at eB;by_cases e:0<ar c k q;have p:q∈t:=by apply WR;exact λz=>eB {k1.trans (.one (ll.mpr ⟨k2,e⟩)),z}
 nofun;have:=h.bc.nonneg k q;grind
def It(a:¬fM c t i)(b:Way (halt t (ar c)) i k):¬fM c t k:=λ zz=>by let(s,s1,d):=zz;calc a {s,b.trans s1,d}
def Iu(a:¬fM c t i):∃g∈t,Way (ar c) i g:=by apply WR;calc λhz=>a {i,.here i,λx b w=>hz ⟨x,b,w⟩}
def sU(h:ba c)(ak:k<c.size)(e:isEnd c k=true)(f:Way (ar c) k j):j=k:=by refine f.keep (C:=λx=>x=k) rfl λa b g d=>?_;subst g;apply WR;intro i;have ae:=h.bc.sum a ak;rw[dK _ (WN.mpr ak),h.mw a ak e]at ae;have ag:=hB (λj _=>h.bc.nonneg a j) b ((WV (nodup_range _)).mpr {i,WN.mpr (h.bc.lt ak d)});grind
def z8(h:ba c)(ak:k<c.size)(a:isEnd c k=true):c4 (ar c) k:=λj b=>by rw[sU h ak a b];calc .here k
theorem ob(h:ba c):∀(m i),i<c.size->(reach c i).length<=m->∃k,Way (ar c) i k/\c4 (ar c) k
 |0,i,af,b=>by have:=Zg ((gG h af).mpr (.here i));nofun|m+1,i,af,b=>by
  by_cases a:c4 (ar c) i;calc{i,.here i,a};have:∃k,Way (ar c) i k/\¬Way (ar c) k i:=by apply WR;refine λhz=>a λk ak=>?_;nofun
  let(k,k1,k2):=this;have ak:=k1.lt h.bc af;have nd:(reach c k).Nodup:=by unfold reach;rw[n7];exact(iI _ _ (by simp) λx aB=>by rwa[WQ.mp aB]).1
  have:=eA (i::reach c k) (reach c i) (W3.mpr {λz=>k2 ((gG h ak).mp z),nd}) λx aB=>by
   rcases WW.mp aB with e|aB;rw[e];calc(gG h af).mpr (.here i);exact(gG h af).mpr (k1.trans ((gG h ak).mp aB))
  rw[WL]at this;let(q,fp,eB):=ob h m k ak (by lia);calc{q,k1.trans fp,eB}
def z9(b:c4 P i)(a:Way P i k):c4 P k:=λj c=>(b j (a.trans c)).trans a
theorem mC:∀(l m)(f:Nat->Nat->Rat),aq l (λi=>aq m λj=>f i j)=aq m λj=>aq l λi=>f i j|[],m,f=>(fk λ_ _=>rfl).symm|x::r,m,f=>by rw[bu,mC r m f,<-iE];rfl
def cR(c:Chain)(k:Nat):Rat:=val (c.node k).worth
def cq(c:Chain)(k:Nat):Rat:=aq (List.range c.size) λj=>cR c j*(aI c k j/(1-bk c j))
def iJ(c:Chain)(i:Nat):Prop:=∃j,j<c.size/\(c.node j).worth.num≠0/\fa c i j
def Iv(b:Way (ar c) i k)(a:fa c k j):fa c i j:={b.trans a.1,a.2}
def sV(a:∀k,aU (c.node k).worth)(b:¬iJ c i)(ak:Way (ar c) i k)(d:j<c.size)(f:fa c k j):cR c j=0:=by apply WR;calc λz=>b {j,d,λe=>z ((gf (a j)).mp e),Iv ak f}
def qm(h:ba c)(l:∀k,aU (c.node k).worth)(af:i<c.size)(m:¬iJ c i)(b:Way (ar c) i k)(f:c4 (ar c) k):cq c k=cR c k:=by have ak:=b.lt h.bc af;unfold cq;rw[gE (nodup_range _) (WN.mpr ak) λj e g=>?_];rw[eX];by_cases d:isEnd c k=true;rw[n' d];grind;rw[sV l m b ak {.here k,f,d}];simp;have e:=WN.mp e;by_cases a:Way (ar c) k j;have d:=λd=>g (sU h e d (f j a)).symm;rw[sV l m b e {a,z9 f a,d}];simp;rw[fo h a];grind
def vV(h:ba c)(ak:k<c.size)(d:¬c4 (ar c) k):cq c k=cR c k+aq (List.range c.size) (λq=>ar c k q*cq c q):=by
 have a:=λa=>d (z8 h ak a);have i:=λe=>d ((mA h ak a).mp e);have f:∀j∈List.range c.size,cR c j*(aI c k j/(1-bk c j))=(if k=j then 1 else 0)*cR c j+aq (List.range c.size) (λq=>cR c j*(ar c k q*aI c q j/(1-bk c j))):=by
  intro j b;have b:=WN.mp b;have g:aq (List.range c.size) (λq=>cR c j*(ar c k q*aI c q j/(1-bk c j)))=cR c j*(1-bk c j)⁻¹*aq (List.range c.size) (λq=>ar c k q*aI c q j):=by rw[<-cn];grind
  rw[g];by_cases e:k=j;subst e;rw[<-lm h a,eX,WO rfl];grind;simp only[<-j3 h ak b e,Yq];grind
 unfold cq;rw[br f,iE,g6 (nodup_range _) (WN.mpr ak),mC];congr 1;refine br λq _=>?_;rw[<-cn];grind
theorem qn(h:ba c)(d:∀k,aU (c.node k).worth)(af:i<c.size):∀l,(∀j∈l,j<c.size/\¬fa c i j)->∀a,aU a->
  ∃v,l.foldl (λa j=>a.bind λa=>(Vaprbq.visits c i j).map λv=>a.add ((c.node j).worth.mul v)) (some a)=some v/\aU v/\val v=val a+aq l λj=>cR c j*(aI c i j/(1-bk c j))
 |[],_,a,b=>{a,rfl,b,by erw[hA];grind}|x::r,hl,a,b=>by
  let(v,cx,dn,cS,_):=sS h af (hl x (WD ..)).1 (hl x (WD ..)).2;let(u,vW,oc,qo):=qn h d af r (λj e=>hl j (WE _ e)) (a.add ((c.node x).worth.mul v)) (k_ _ _);refine{u,?_,oc,?_};nofun;erw[qo,val_add b (hD _ _),val_mul (d x) dn,bu];unfold cR;grind
theorem qp c i:∀(l:List Nat),l.foldl (λa j=>a.bind λa=>(Vaprbq.visits c i j).map λv=>a.add ((c.node j).worth.mul v)) (none:Option Frac)=none|[]=>rfl|_::r=>qp c i r
theorem qq(h:ba c)(af:i<c.size):∀(l:List Nat)(a:Option Frac),(∃j∈l,j<c.size/\fa c i j)->
  l.foldl (λa j=>a.bind λa=>(Vaprbq.visits c i j).map λv=>a.add ((c.node j).worth.mul v)) a=none
 |x::r,a,⟨j,a',b,d⟩=>by
  rw[Yk];rcases WW.mp a' with e|a';subst e;rw[sR h af b d];have f:(a.bind λa=>none.map λv=>a.add ((c.node j).worth.mul v))=none:=by cases a<;>rfl
  rw[f];calc qp c i r;calc qq h af r _ ⟨j,a',b,d⟩
def z_(h:ba c)(af:i<c.size)(a:iJ c i):Vaprbq.gain c i=none:=by
 let(j,h6,k7,vX):=a;exact qq h af _ _ {j,WY.mpr {WN.mpr h6,by nofun},h6,vX}
def z'(h:ba c)(d:∀k,aU (c.node k).worth)(af:i<c.size)(f:¬iJ c i){x:Nat->Rat}
  (p:∀k,Way (ar c) i k->c4 (ar c) k->x k=cR c k) (t:∀k,Way (ar c) i k->¬c4 (ar c) k->x k=cR c k+aq (List.range c.size) λq=>ar c k q*x q):
  ∃v,Vaprbq.gain c i=some v/\aU v/\val v=x i:=by
 let(v,v1,v2,ln):=qn h d af ((numbers c).filter λj=>(c.node j).worth.num !=0) (λj s=>by
  let(a,b):=WY.mp s;have a:=WN.mp a;exact{a,λe=>f {j,a,by nofun,e}}) Frac.zero dp
 refine{v,v1,v2,?_};have u:val v=cq c i:=by rw[ln,val_zero];unfold cq;rw[qd (List.range c.size) λj=>(c.node j).worth.num !=0];rw[fk (l:=(List.range c.size).filter λj=> !((c.node j).worth.num !=0)) λj s=>?_];unfold numbers;grind;have:cR c j=0:=(gf (d j)).mp (by nofun);nofun
 rw[u];by_cases m:c4 (ar c) i;erw[qm h d af f (.here i) m,p i (.here i) m];have ex:∃K:List Nat,K.Nodup/\∀k,k∈K↔k<c.size/\Way (ar c) i k/\¬c4 (ar c) k:=
  {(List.range c.size).filter λk=>@decide (Way (ar c) i k/\¬c4 (ar c) k) (Classical.propDecidable _),Xb _ (nodup_range _),λk=>by rw[WY,WN,@aaB _ (Classical.propDecidable _)]}
 let(K,nd,od):=ex;have lt:=λk ak=>((od k).mp ak).1;have out:∀k∈K,∃j,j∉K/\Way (ar c) k j:=λk ak=>by
  let(q,n,o):=ob h _ k (lt k ak) (W2 _);grind
 have split:∀k∈K,∀y:Nat->Rat,(∀q,Way (ar c) i q->c4 (ar c) q->y q=cR c q)->aq (List.range c.size) (λq=>ar c k q*y q)=aq ((List.range c.size).filter λi=> !K.contains i) (λq=>ar c k q*cR c q)+aq K (λq=>ar c k q*y q):=by
  intro k ak y A;rw[hE nd lt,br (l:=(List.range c.size).filter λi=> !K.contains i) (g:=λq=>ar c k q*cR c q) λq z=>?_];grind;let(n,o):=WY.mp z;by_cases e:0<ar c k q;have w:=((od k).mp ak).2.1.trans (.one e);nofun;have:=h.bc.nonneg k q;have:ar c k q=0:=by grind
  rw[this];simp
 refine j1 h.bc nd lt out (r:=λk=>cR c k+aq ((List.range c.size).filter λi=> !K.contains i) λq=>ar c k q*cR c q) (λk ak=>?_) (λk ak=>?_) i ((od i).mpr {af,.here i,m});show cq c k=_;erw[vV h (lt k ak) ((od k).mp ak).2.2,split k ak (cq c) λq n o=>qm h d af f n o];grind;erw[t k ((od k).mp ak).2.1 ((od k).mp ak).2.2,split k ak x p];grind
def dk(h:ba c)(af:i<c.size):j∈classOf c i↔Way (ar c) i j/\Way (ar c) j i:=by unfold classOf numbers;rw[WY,WN,Xd,dC h af];constructor;intro⟨a,b,d⟩;calc{b,(dC h a).mp d};intro⟨a,b⟩;have e:=a.lt h.bc af;calc{e,a,(dC h e).mpr b}
def sW c i:(classOf c i).Nodup:=Xb _ (nodup_range _)
def iK(a:j∈classOf c i):j<c.size:=WN.mp (WY.mp a).1
def sX(h:ba c)(af:i<c.size)(e:j∈classOf c i):classOf c j=classOf c i:=by
 have d:=iK e;have⟨a,b⟩:=(dk h af).mp e;apply aaN;intro k ak;have ak:=WN.mp ak;rw[Xu,Xd,Xd,dC h d,dC h ak,dC h af,dC h ak];calc{λz=>{a.trans z.1,z.2.trans b},λz=>{b.trans z.1,z.2.trans a}}
def oe(h:ba c)(af:i<c.size):closed c (classOf c i)=true↔c4 (ar c) i:=by
 unfold closed;rw[XD];constructor;intro a k ak;have ae:=a i ((dk h af).mpr {.here i,.here i});rw[XD]at ae;have ag:=ae k ((gG h af).mpr ak);rw[WX]at ag;calc((dk h af).mp ag).2;intro d x a;rw[XD];intro k ak;have b:=iK a;have⟨gh,mB⟩:=(dk h af).mp a;have ak:=(gG h b).mp ak;rw[WX,dk h af];calc{gh.trans ak,d k (gh.trans ak)}
def gi(c:Chain)(i:Nat):Prop:=(classOf c i).head? =some i
def Aa(h:ba c)(af:i<c.size):gi c i↔∀m,m<i->¬(Way (ar c) i m/\Way (ar c) m i):=by
 have a:(classOf c i).Pairwise (· <·):=Xb _ aa9;have b:=(dk h af).mpr {.here i,.here i};unfold gi;cases e:classOf c i with|nil=>nofun|cons x r=>
  rw[e]at b a;have d:x∈classOf c i:=by rw[e];exact WD ..
  rw[List.pairwise_cons]at a;constructor;intro aI m f ⟨g,j⟩;have k:=(dk h af).mpr ⟨g,j⟩;grind;intro aI;rcases WW.mp b with l|vY;nofun;calc absurd ((dk h af).mp d) (aI x (a.1 i vY))
def vZ(hl:l∈Vaprbq.classes c):∃i,i<c.size/\l=classOf c i/\gi c i:=by
 let(i,ae,ag):=Yu.mp hl;by_cases e:(classOf c i).head? =some i;rw[WO e]at ag;cases ag;calc{i,WN.mp ae,rfl,e};nofun
def v0 c(b:(f::r).Nodup):steady c (f::r)=solve ((f::r).map λj=>(f::r).map (λi=>if j=f then Frac.one else(if i=j then Frac.one else Frac.zero).sub (chance c i j))++[if j=f then Frac.one else Frac.zero]):=by
 unfold steady;congr 1;rw[Z3,WU];congr 1;simp;have d:=(W3.mp b).1;have key:∀(a:List Nat)k,(∀j∈a,j∈r)->0<k->(a.zipIdx k).map (λj=>if j.2=0 then(f::r).map (λ_=>Frac.one)++[Frac.one]else((f::r).map λi=>(if i=j.1 then Frac.one else Frac.zero).sub (chance c i j.1))++[Frac.zero])
   =a.map λj=>(f::r).map (λi=>if j=f then Frac.one else(if i=j then Frac.one else Frac.zero).sub (chance c i j))++[if j=f then Frac.one else Frac.zero]:=by
  intro a;induction a with|nil=>intros;rfl|cons x g h=>intro k l ak;rw[Z3];grind
 calc key r 1 (λj e=>e) (by nofun)
def Ab(h:ba c)(n:(f::r).Nodup)(hl:∀i∈f::r,i<c.size)(v:∀i∈r,Way (ar c) i f)
  (w:∀j∈r,y j=aq (f::r) λi=>y i*ar c i j) (ae:aq (f::r) y=1):
  (steady c (f::r)).length=(f::r).length/\(∀i,aU (valueIn (f::r) (steady c (f::r)) i))/\∀i∈f::r,val (valueIn (f::r) (steady c (f::r)) i)=y i:=by
 have a:=W3.mp n;have R:mm r (λi j=>if j=c.size then ar c f i else(if i=j then 1 else 0)-ar c j i):=by refine lg h.bc a.2 (λi af=>hl i (WE _ af)) (t:=λ_=>1) (λ_ _=>by grind) (λi af j a'=>?_) λi af=>{f,a.1,v i af};show(if i=c.size then _ else _)=_;rw[WM (by have:=hl i (WE _ af);lia)];by_cases e:i=j;rw[WO e,WO e.symm];grind;rw[WM e,WM (XE e)];grind
 have p:∀j∈r,j≠c.size:=λj a'=>by have:=hl j (WE _ a');lia
 let(u,bg):=h5 k8 r _ R c.size;have un:∀i∈r,0<=u i:=λi af=>n4 k8 R bg (λi af=>by
  show 0<=if c.size=c.size then _ else _
  rw[WO rfl];calc h.bc.nonneg f i) af
 have m:∀(z:Nat->Rat),∀i∈r,aq r (λt=>(if t=c.size then ar c f i else(if i=t then 1 else 0)-ar c t i)*z t)=z i-aq r (λt=>z t*ar c t i):=by intro z i af;rw[<-g6 a.2 af z,<-dm];exact br λt x=>by rw[WM (p t x)];grind
 have one:∀z:Nat->Rat,(∀j∈r,z j=aq (f::r) λi=>z i*ar c i j)->∀j∈r,z j=z f*u j:=by intro z hz j a';refine mj k8 R (b:=λi=>z f*ar c f i) (y:=λj=>z f*u j) (λi af=>?_) (λi af=>?_) a';show aq r (λt=>(if t=c.size then ar c f i else(if i=t then 1 else 0)-ar c t i)*z t)=_;rw[m z i af];have:=hz i af;rw[bu]at this;grind;have:=bg i af;erw[Z4]at this;rw[<-this,<-cn];exact br λt _=>by grind
 have A:0<=aq r u:=gC un;have bO:∀z,(∀j∈r,z j=aq (f::r) λi=>z i*ar c i j)->aq (f::r) z=z f*(1+aq r u):=by intro z hz;rw[bu,br (one z hz),cn];grind
 have uniq:∀z,(∀j∈r,z j=aq (f::r) λi=>z i*ar c i j)->aq (f::r) z=0->∀j∈f::r,z j=0:=by
  intro z hz hs;rw[bO z hz]at hs;have q:z f=0:=by
   rcases aam.mp hs with e|e
   calc e;grind
  intro j a';rcases WW.mp a' with e|a'
  rw[e,q];rw[one z hz j a',q];grind
 rw[v0 c n];have s:∀j i,val ((λj i=>if j=f then Frac.one else(if i=j then Frac.one else Frac.zero).sub (chance c i j)) j i)=if j=f then 1 else(if i=j then 1 else 0)-ar c i j:=by intro j i;by_cases e:j=f;erw[WO e];calc val_one;erw[WM e];rw[val_sub (by split;calc e_;calc dp) (h.nm i j)];by_cases g:i=j;rw[WO g,WO g,val_one];rfl;rw[WM g,WM g,val_zero];rfl
 have k:∀z,aq (f::r) (λi=>(if f=f then(1:Rat)else(if i=f then 1 else 0)-ar c i f)*z i)=aq (f::r) z:=λz=>br λi _=>by rw[WO rfl];grind
 have l:∀z:Nat->Rat,∀j∈r,aq (f::r) (λi=>(if j=f then(1:Rat)else(if i=j then 1 else 0)-ar c i j)*z i)=z j-aq (f::r) (λi=>z i*ar c i j):=by intro z j a';have e:j≠f:=λe=>a.1 (by rw[<-e];calc a');rw[<-g6 n (WE _ a') z,<-dm];exact br λi _=>by rw[WM e];by_cases g:i=j;rw[WO g,WO g.symm];grind;rw[WM g,WM (XE g)];grind
 let(s1,s2,s3):=qc n (λj i=>if j=f then Frac.one else(if i=j then Frac.one else Frac.zero).sub (chance c i j)) (λj=>if j=f then Frac.one else Frac.zero) (λj i=>by
   split;calc e_;calc k' _ _) (λj=>by split;calc e_;calc dp) λz hz=>by
  erw[s]at hz;refine uniq z (λj a'=>?_) ?_;have:=hz j (WE _ a');rw[l z j a']at this;grind;have:=hz f (WD ..);rw[k z]at this;exact this
 refine{s1,s2,λi af=>?_};erw[s]at s3;generalize(λi=>valueIn (f::r) (solve ((f::r).map λj=>(f::r).map (λi=>if j=f then Frac.one else(if i=j then Frac.one else Frac.zero).sub (chance c i j))++[if j=f then Frac.one else Frac.zero])) i)=V at*;have d:=uniq (λi=>val (valueIn (f::r) (solve ((f::r).map λj=>(f::r).map (λi=>if j=f then Frac.one else(if i=j then Frac.one else Frac.zero).sub (chance c i j))++[if j=f then Frac.one else Frac.zero])) i)-y i) (λj a'=>?_) ?_ i af;grind;have o:=s3 j (WE _ a');rw[l (λi=>val (valueIn (f::r) _ i)) j a',WM (show j≠f from λe=>a.1 (by rw[<-e];calc a')),val_zero]at o;have B:=w j a';have e:aq (f::r) (λi=>(val (valueIn (f::r) (solve ((f::r).map λj=>(f::r).map (λi=>if j=f then Frac.one else(if i=j then Frac.one else Frac.zero).sub (chance c i j))++[if j=f then Frac.one else Frac.zero])) i)-y i)*ar c i j)=aq (f::r) (λi=>val (valueIn (f::r) (solve ((f::r).map λj=>(f::r).map (λi=>if j=f then Frac.one else(if i=j then Frac.one else Frac.zero).sub (chance c i j))++[if j=f then Frac.one else Frac.zero])) i)*ar c i j)-aq (f::r) (λi=>y i*ar c i j):=by rw[<-dm];exact br λi _=>by grind
 rw[e];grind;have o:=s3 f (WD ..);rw[k,WO rfl,val_one]at o;rw[dm,o,ae];grind
def Ac(h:ba c)(af:i<c.size)(a:f<c.size)(g:c4 (ar c) f)(b:Way (ar c) f j):aI c i j=aI c i f:=by
 have d:=b.lt h.bc a;refine(sP h d (x:=λk=>aI c k f) (mz h a g b) (λk ak l=>fo h λw=>l (w.trans b)) (λk ak m l=>?_) i af).symm;by_cases e:k=f;subst e;rw[eX,<-h.bc.sum k ak];refine br λq _=>?_;by_cases n:0<ar c k q;rw[mz h ak g (.one n)];simp;have:=h.bc.nonneg k q;have:ar c k q=0:=by grind
 rw[this];simp;calc j3 h ak a e
def Iw(h:ba c)(af:i<c.size)(a:f<c.size)(b:c4 (ar c) f)(d:Way (ar c) f j):Vaprbq.come c i j=Vaprbq.come c i f:=
 k9 (fU h i j) (fU h i f) (Ac h af a b d)
def lp(P:aX)(l:List Nat)(f:Nat)(p:Nat->Nat):Prop:=∀v∈l,(v=f/\p v=0)\/∃u∈l,0<P u v/\p v=p u+1
def iL(P:aX)(l:List Nat)(p:Nat->Nat)(d:Nat):Prop:=∀u∈l,∀v∈l,0<P u v->(d:Int)∣(p u)+1-p v
theorem mD(g:f∈l)(h:p f=0)(a:lp P l f q)(hd:iL P l p d):∀(k v),v∈l->q v=k->(d:Int)∣(q v)-p v
 |k,v,b,ak=>by
  rcases a v b with⟨e,m⟩|⟨u,c,e,n⟩;nofun;have i:=mD g h a hd (q u) u c rfl;have bp:=hd u c v b e;have j:(q v)-p v=((q u)-p u)+((p u:Int)+1-p v):=by lia
  rw[j];exact abF i bp
 termination_by k=>k
 decreasing_by nofun
def qr(a:f∈l)(b:p f=0)(c:lp P l f q)(hd:iL P l p d):iL P l q d:=by
 intro u g v h e;have i:=mD a b c hd _ u g rfl;have bp:=mD a b c hd _ v h rfl;have j:=hd u g v h e;have k:(q u)+1-q v=(((q u)-p u)+((p u)+1-p v))-((q v:Int)-p v):=by lia
 rw[k];calc Int.dvd_sub (abF i j) bp
theorem v3:∀(l:List Nat)(a d:Nat),d∣l.foldl Nat.gcd a↔d∣a/\∀x∈l,d∣x|[],a,d=>by simp|x::r,a,d=>by rw[Yk,v3 r,aan,Z',and_assoc]
structure lq(P:aX)(l:List Nat)(f:Nat)(a:List (Nat×Nat)):Prop where
 nodup:(a.map (·.1)).Nodup
 keys:∀x∈a,x.1∈l
 root:(f,0)∈a
 got:∀x∈a,(x.1=f/\x.2=0)\/∃y∈a,0<P y.1 x.1/\x.2=y.2+1
def ie(c:Chain)(l:List Nat)(a:List (Nat×Nat)):List (Nat×Nat):=
 (l.filter λj=> !(a.any λx=>x.1==j)).filterMap λj=>((a.filter λx=>decide (0<(chance c x.1 j).num)).map λx=>x.2+1).min?.map λd=>(j,d)
def qt c l n a:levels c l (n+1) a=levels c l n (a++ie c l a):=rfl
def min_mem{l:List Nat}(h:l.min? =some d):d∈l:=List.min?_mem h
def iM:x∈ie c l a↔x.1∈l/\x.1∉a.map (·.1)/\((a.filter λy=>decide (0<(chance c y.1 x.1).num)).map λy=>y.2+1).min? =some x.2:=by
 unfold ie;rw[Yu];constructor;intro⟨j,ae,ag⟩;cases b:((a.filter λy=>decide (0<(chance c y.1 j).num)).map λy=>y.2+1).min? with|none=>nofun|some d=>grind
 intro h;refine{x.1,?_,by rw[h.2.2];rfl};rw[WY];exact{h.1,by grind}
theorem qu c(a:List (Nat×Nat)):∀(m:List Nat),m.Nodup->((m.filterMap λj=>((a.filter λx=>decide (0<(chance c x.1 j).num)).map λx=>x.2+1).min?.map λd=>(j,d)).map (·.1)).Nodup/\∀x∈((m.filterMap λj=>((a.filter λx=>decide (0<(chance c x.1 j).num)).map λx=>x.2+1).min?.map λd=>(j,d)).map (·.1)),x∈m
 |[],_=>{Yd,λx aB=>by cases aB}|j::r,h=>by
  let(ae,ag):=W3.mp h;let(eJ,bp):=qu c a r ag;rw[YC];cases b:((a.filter λy=>decide (0<(chance c y.1 j).num)).map λy=>y.2+1).min? with|none=>calc{eJ,λx aB=>WE _ (bp x aB)}|some d=>
   refine{W3.mpr {λz=>ae (bp j z),eJ},λx aB=>?_};rcases WW.mp aB with e|aB;erw[e];calc WD ..;calc WE _ (bp x aB)
def v5(h:ba c)(d:l.Nodup)(L:lq (ar c) l f a):lq (ar c) l f (a++ie c l a):=by
 refine{?_,λx aB=>?_,Xa _ L.root,λx aB=>?_};rw[Xp,Yr];refine{L.nodup,(qu c a _ (Xb _ d)).1,λx aB y b e=>?_};let(z,hz,dn):=WT.mp b;refine(iM.mp hz).2.1 ?_;grind;rcases Xc.mp aB with aB|aB;calc L.keys x aB;calc(iM.mp aB).1;rcases Xc.mp aB with aB|aB;rcases L.got x aB with g|⟨y,b,g⟩;nofun;grind;let(_,_,bR):=iM.mp aB;let(y,b,e):=WT.mp (min_mem bR);let(bP,cV):=WY.mp b;calc .inr {y,Xa _ bP,(ib h _ _).mp cV,e.symm}
theorem qv(h:ba c)(o:l.Nodup)(hl:∀i∈l,i<c.size)(g:∀v∈l,∀C:Nat->Prop,C f->(∀a∈l,∀b∈l,C a->0<ar c a b->C b)->C v):∀n a,lq (ar c) l f a->c.size<n+a.length->
  lq (ar c) l f (levels c l n a)/\∀v∈l,v∈(levels c l n a).map (·.1)
 |0,a,L,ak=>by
  have:=eA (a.map (·.1)) (List.range c.size) L.nodup λx j=>by
   let(y,aN,e):=WT.mp j;rw[<-e];exact WN.mpr (hl _ (L.keys y aN))
  erw[WC,W0]at this;lia|n+1,a,L,ak=>by
  erw[qt];by_cases hc:∀v∈l,v∈a.map (·.1);have e:ie c l a=[]:=by
   apply Z1.mpr;intro x j;let(ae,ag,_):=iM.mp j;grind
  have:∀k,levels c l k a=a:=by
   intro k;induction k with
   |zero=>rfl|succ k p=>erw[qt,e,XC,p]
  nofun;have:∃u∈l,∃v∈l,u∈a.map (·.1)/\0<ar c u v/\v∉a.map (·.1):=by apply WR;refine λhz=>hc λv m=>?_;refine g v m (λx=>x∈a.map (·.1)) (WT.mpr {_,L.root,rfl}) λu q w s t e=>?_;grind
  let(u,q,v,m,vW,e,v1):=this;refine qv h o hl g n _ (v5 h o L) ?_;have:∃d,(v,d)∈ie c l a:=by
   let(y,aN,dn):=WT.mp vW;have z:y.2+1∈(a.filter λy=>decide (0<(chance c y.1 v).num)).map λy=>y.2+1:=
    WT.mpr {y,WY.mpr {aN,(ib h _ _).mpr (by nofun)},rfl}
   cases r:((a.filter λy=>decide (0<(chance c y.1 v).num)).map λy=>y.2+1).min? with|none=>grind|some d=>exact{d,iM.mpr ⟨m,v1,r⟩}
  grind
theorem find_key:∀a x,(a.map (·.1)).Nodup->x∈a->levelOf a x.1=x.2
 |y::r,x,b,aB=>by
  unfold levelOf;erw[WU,W3]at b;by_cases e:y.1=x.1;nofun;rw[Zh (by nofun)];rcases WW.mp aB with c|aB;nofun;calc find_key r x b.2 aB
def sY(h:ba c)(d:f<c.size):∀v∈classOf c f,∀C:Nat->Prop,C f->(∀a∈classOf c f,∀b∈classOf c f,C a->0<ar c a b->C b)->C v:=by
 intro v m C n hs;let(v6,v7):=(dk h d).mp m;have key:∀{i j:Nat},Way (ar c) i j->Way (ar c) f i->Way (ar c) j f->C i->C j:=by
  intro i j w;induction w with|here=>simp|step e w o=>intro l g k;have b:=l.trans (.one e);exact o b g (hs _ ((dk h d).mpr {l,(Way.one e).trans (w.trans g)}) _ ((dk h d).mpr {b,w.trans g}) k e)
 calc key v6 (.here f) v7 n
def Ad(h:ba c)(m:f<c.size)(r:gi c f)(s:p f=0)(t:lp (ar c) (classOf c f) f p)(n:∀d,d∣g↔iL (ar c) (classOf c f) p d):Vaprbq.period c (classOf c f)=g:=by
 have k:=(dk h m).mpr {.here f,.here f};let(L,Ae):=qv h (sW c f) (λi af=>iK af) (sY h m) c.size [(f,0)] {by simp,λx b=>by rwa[WQ.mp b],WQ.mpr rfl,λx b=>.inl (by nofun)} (by simp);have e:Vaprbq.period c (classOf c f)=((classOf c f).flatMap λu=>((classOf c f).filter λv=>decide (0<(chance c u v).num)).map λv=>((levelOf (levels c (classOf c f) c.size [(f,0)]) u:Int)+1-levelOf (levels c (classOf c f) c.size [(f,0)]) v).natAbs).foldl Nat.gcd 0:=by unfold Vaprbq.period;rw[r]
 rw[e];generalize levels c (classOf c f) c.size [(f,0)]=a at L Ae;have w:=find_key a (f,0) L.nodup L.root;have A:lp (ar c) (classOf c f) f (levelOf a):=by
  intro v j;let(x,b,e):=WT.mp (Ae v j);subst e;rw[find_key a x L.nodup b];rcases L.got x b with g|⟨y,o,B,C⟩;nofun;exact .inr {y.1,L.keys y o,B,by rwa[find_key a y L.nodup o]}
 have q:∀d,d∣((classOf c f).flatMap λu=>((classOf c f).filter λv=>decide (0<(chance c u v).num)).map λv=>((levelOf a u:Int)+1-levelOf a v).natAbs).foldl Nat.gcd 0↔iL (ar c) (classOf c f) (levelOf a) d:=by
  intro d;rw[v3];constructor;intro⟨_,b⟩ u l v j e;have:=b _ (Z5.mpr {u,l,WT.mpr {v,WY.mpr {j,(ib h u v).mpr e},rfl}});exact XK.mpr this;refine λb=>{abQ d,λz hz=>?_};let(u,l,hz):=Z5.mp hz;let(v,j,e):=WT.mp hz;let(v1,v2):=WY.mp j;rw[<-e];exact XK.mp (b u l v v1 ((ib h u v).mp v2))
 apply Nat.dvd_antisymm;exact(n _).mpr (qr k w t ((q _).mp (Yf _)));exact(q _).mpr (qr k s A ((n _).mp (Yf _)))
open VaprbBase
def bA(l:Bytes):Nat:=(l.takeWhile (· !=10)).length
def eY:Nat->Bytes->Nat|0,_=>0|_+1,[]=>0|n+1,b::r=>if isBlank b=true then 1+eY n r else if b==35 then 1+bA r+eY n (r.drop (bA r))else 0
def skip(l:Bytes):Nat:=eY (l.length+1) l
theorem og:∀l:Bytes,l.dropWhile (· !=10)=l.drop (bA l)|[]=>rfl|b::r=>by unfold bA;erw[abG,Xt];split;rw[og r];rfl;rfl
theorem iN{α:Type}p:∀l:List α,(l.takeWhile p).length<=l.length|[]=>W2 _|a::r=>by rw[Xt];split;have:=iN p r;simp[WL];omega;simp
def sZ l:bA l<=l.length:=iN _ _
def s6(h:token l=some (t,k)):0<k/\k<=l.length:=by
 unfold token at h;split at h;nofun;rename_i b r;split at h;rename_i a;simp only at h;split at h;cases h;injection h with h;injection h with ae ag;subst ag;refine{?_,iN _ _};rw[Xt,WO (by rw[a];rfl)];simp;split at h;rename_i a;erw[XQ]at h;let(n,_,h):=h;injection h with ae ag;subst ag;refine{?_,iN _ _};rw[Xt,WO a];simp;split at h;split at h;rename_i d;injection h with h;injection h with ae ag;subst ag;cases r with|nil=>simp at d|cons c r=>simp
 simp[XQ]at h;have:=iN isDigit r;grind;grind
theorem iO:∀(n m at_)l,l.length<n->l.length<m->lex n at_ l=lex m at_ l
 |0,_,_,_,h,_=>absurd h (Xv _)|_+1,0,_,_,_,h=>absurd h (Xv _)|n+1,m+1,at_,[],_,_=>by rfl|n+1,m+1,at_,b::r,ae,ag=>by
  simp[WL]at ae ag;unfold lex;split;calc iO n m _ r (by omega) (by omega);split;rw[og];calc iO n m _ _ (by grind) (by grind);cases a:token (b::r)with|none=>rfl|some p=>have ak:=(s6 a).1;simp only;rw[iO n m _ _ (by rw[W5,WL];omega) (by rw[W5,WL];omega)]
theorem mE:∀(n m)l,l.length<n->l.length<m->eY n l=eY m l|0,_,_,h,_=>absurd h (Xv _)|_+1,0,_,_,h=>absurd h (Xv _)|n+1,m+1,[],_,_=>rfl|n+1,m+1,b::r,ae,ag=>by simp[WL]at ae ag;unfold eY;rw[mE n m r (by omega) (by omega),mE n m (r.drop (bA r)) (by grind) (by grind)]
def mF{r:Bytes}(h:isBlank b=true):skip (b::r)=1+skip r:=by unfold skip;rw[show eY ((b::r).length+1) (b::r)=(if isBlank b=true then 1+eY (b::r).length r else if b==35 then 1+bA r+eY (b::r).length (r.drop (bA r))else 0)from rfl,WO h];rfl
def lr{r:Bytes}(h:¬isBlank b=true)(ag:(b==35)=true):skip (b::r)=1+bA r+skip (r.drop (bA r)):=by unfold skip;rw[show eY ((b::r).length+1) (b::r)=(if isBlank b=true then 1+eY (b::r).length r else if b==35 then 1+bA r+eY (b::r).length (r.drop (bA r))else 0)from rfl,WM h,WO ag];rw[mE _ ((r.drop (bA r)).length+1) _ (by grind) (by nofun)]
def mG{r:Bytes}(h:¬isBlank b=true)(ag:¬(b==35)=true):skip (b::r)=0:=by unfold skip;rw[show eY ((b::r).length+1) (b::r)=(if isBlank b=true then 1+eY (b::r).length r else if b==35 then 1+bA r+eY (b::r).length (r.drop (bA r))else 0)from rfl,WM h,WM ag]
def Af:skip []=0:=rfl
theorem mH:∀n(l:Bytes),l.length<n->l.drop (skip l)=[]\/∃b r,l.drop (skip l)=b::r/\¬isBlank b=true/\¬(b==35)=true|0,_,h=>absurd h (Xv _)|n+1,[],_=>.inl rfl|n+1,b::r,h=>by simp[WL]at h;by_cases ae:isBlank b=true;rw[mF ae,ZH,X'];calc mH n r (by omega);by_cases ag:(b==35)=true;rw[lr ae ag,show 1+bA r+skip (r.drop (bA r))=(bA r+skip (r.drop (bA r)))+1 by lia,X',<-Ys];calc mH n _ (by grind);rw[mG ae ag];calc .inr ⟨b,r,rfl,ae,ag⟩
def Ag{n at_:Nat}{r:Bytes}(h:isBlank b=true):lex (n+1) at_ (b::r)=lex n (at_+1) r:=by show(if isBlank b=true then _ else _)=_;rw[WO h]
def Ah{n at_:Nat}{r:Bytes}(h:¬isBlank b=true)(ag:(b==35)=true):lex (n+1) at_ (b::r)=lex n (at_+1+bA r) (r.drop (bA r)):=by rw[<-og];show(if isBlank b=true then _ else if b==35 then _ else _)=_;rw[WM h,WO ag];rfl
theorem mI:∀(n m at_)l,l.length<n->l.length<m->lex n at_ l=lex m (at_+skip l) (l.drop (skip l))|0,_,_,_,h,_=>absurd h (Xv _)|n+1,m,at_,[],h,ag=> iO _ _ _ _ h ag|n+1,m,at_,b::r,h,ag=>by simp only[WL]at h ag;by_cases a:isBlank b=true;rw[mF a,ZH 1,X'];rw[Ag a,mI n m (at_+1) r (by nofun) (by lia),Nat.add_assoc,ZH 1];by_cases c:(b==35)=true;rw[lr a c,show 1+bA r+skip (r.drop (bA r))=(bA r+skip (r.drop (bA r)))+1 by lia,X',<-Ys];rw[Ah a c,mI n m _ (r.drop (bA r)) (by grind) (by grind),show at_+1+bA r+skip (r.drop (bA r))=at_+(bA r+skip (r.drop (bA r))+1)by lia];rw[mG a c];calc iO _ _ _ _ (by omega) (by omega)
def Ix{n at_:Nat}{r:Bytes}(ae:¬isBlank b=true)(ag:¬(b==35)=true):lex (n+1) at_ (b::r)=match token (b::r)with|none=>.error {2,at_}|some (t,k)=>(lex n (at_+k) ((b::r).drop k)).map λl=>⟨at_,t⟩::l:=by
 show(if isBlank b=true then _ else if b==35 then _ else _)=_;(nofun;lia)
def v8 l:skip l<=l.length:=by
 have key:∀n l,l.length<n->skip l<=l.length:=by
  intro n;induction n with|zero=>simp|succ n a=>
   intro l h;cases l with|nil=>calc W2 _|cons b r=>by_cases ae:isBlank b=true;rw[mF ae];(simp;grind);by_cases ag:(b==35)=true;rw[lr ae ag];have c:=sZ r;grind;rw[mG ae ag];nofun
 grind
def Ai l b:decimal (l++[b])=10*decimal l+(b.toNat-48):=by unfold decimal;simp
theorem qw:∀(l:Bytes)n,n*10^l.length<=l.foldl (λn b=>10*n+(b.toNat-48)) n|[],n=>by simp|b::r,n=>by erw[Yk,WL,ZI];refine W1 ?_ (qw r _);rw[abR (10^r.length) 10,<-abN];calc XH _ (by lia)
def qx b(r:Bytes):decimal (b::r)=r.foldl (λn b=>10*n+(b.toNat-48)) (b.toNat-48):=by unfold decimal;simp
def Aj{r:Bytes}(c:48<b.toNat)(a:10<=r.length):1000000000<decimal (b::r):=by rw[qx];have h:=qw r (b.toNat-48);have ae:10^10<=10^r.length:=XX (by decide) a;have ag:1*10^r.length<=(b.toNat-48)*10^r.length:=XH _ (by lia);lia
def Ak{r:Bytes}(a:48<b.toNat):0<decimal (b::r):=by rw[qx];have h:=qw r (b.toNat-48);have ae:0<(b.toNat-48)*10^r.length:=YM (by omega) (abV (by decide));omega
def s7{b:UInt8}:b=48↔b.toNat=48:=by
 constructor;nofun;calc λh=>abg.mp h
def Al minus l(hd:∀b∈l,isDigit b=true):numberOf minus l=
  if l=[]\/1000000000<decimal l\/(l.head? =some 48/\(minus=true\/1<l.length))then none else some (if minus=true then -(decimal l:Int)else(decimal l)):=by
 unfold numberOf NUMBER;cases l with|nil=>simp|cons b r=>
  have f:48<=b.toNat:=by have:=hd b (by simp);unfold isDigit at this;nofun
  have d:(b::r).head? =some 48↔b.toNat=48:=by erw[ZL,ZV];exact s7
  by_cases e:b.toNat=48;by_cases c:r=[];subst c;have d0:decimal [b]=0:=by rw[qx,e];rfl
  nofun;have hl:=abH.mpr c;nofun;have a:48<b.toNat:=by lia
  have mJ:=Ak (r:=r) a;by_cases c:10<=r.length;have:=Aj a c;nofun;(nofun;lia)
def qy(a:Bool)(l:Bytes):Option (Tok×Nat):=(numberOf a (l.takeWhile isDigit)).map λn=>(.num n,(l.takeWhile isDigit).length+if a=true then 1 else 0)
def Iy{r:Bytes}(h:isDigit b=true):token (b::r)=qy false (b::r):=by
 have hl:¬isLetter b=true:=by unfold isDigit isLetter at*;lia
 show(if isLetter b=true then _ else if isDigit b=true then _ else _)=_;rw[WM hl,WO h];rfl
def Am{r:Bytes}(ae:¬isLetter b=true)(ag:¬isDigit b=true)(a:(b==45)=true):token (b::r)=if r.head? =some 62 then some (.sign 1,2)else qy true r:=by show(if isLetter b=true then _ else if isDigit b=true then _ else if b==45 then _ else _)=_;rw[WM ae,WM ag,WO a];rfl
def Iz{r:Bytes}(h:¬r.head? =some 62):token (45::r)=qy true r:=by rw[Am (by decide) (by decide) (by decide),WM h]
def IA{r:Bytes}(h:r.head? =some 62):token (45::r)=some (.sign 1,2):=by rw[Am (by decide) (by decide) (by decide),WO h]
def IB{r:Bytes}(ae:¬isLetter b=true)(ag:¬isDigit b=true)(a:¬(b==45)=true):token (b::r)=if SIGNS.contains b=true then some (.sign b.toNat,1)else none:=by show(if isLetter b=true then _ else if isDigit b=true then _ else if b==45 then _ else _)=_;nofun
abbrev dM(α:Type):=Except Fault α
def aF{α a:Type}x(f:α->dM a):(Except.ok x>>=f)=f x:=rfl
def iP{α a:Type}e(f:α->dM a):(Except.error e>>=f)=Except.error e:=rfl
def d1(l:Toks):dM (RawStep×Toks):=takeName l>>=λx=>takeSign 58 x.2>>=λl=>takeWeight l>>=λw=>.ok (⟨x.1,w.1⟩,w.2)
def eZ(x:α)(e:dM (List α×Toks)):dM (List α×Toks):=e>>=λz=>.ok (x::z.1,z.2)
def oh(xs:List α)(e:dM (List α×Toks)):dM (List α×Toks):=e>>=λz=>.ok (xs++z.1,z.2)
def v9{α:Type}xs x(e:dM (List α×Toks)):oh xs (eZ x e)=oh (xs++[x]) e:=by
 cases e with|error f=>rfl|ok z=>show Except.ok _=Except.ok _;simp
def hF(n k)l:takeSteps (n+1) k l=if nameNext l=true/\STEPS<=k then .error {4,here l}else d1 l>>=λz=>if next (.sign 44) z.2=true then eZ z.1 (takeSteps n (k+1) (z.2.drop 1))else .ok ([z.1],z.2):=by
 show(if nameNext l=true/\STEPS<=k then _ else _)=_;split;rfl;unfold d1;cases takeName l with|error e=>rfl|ok x=>
  simp[aF];cases takeSign 58 x.2 with|error e=>rfl|ok a=>
   simp[aF];cases takeWeight a with|error e=>rfl|ok w=>simp[aF];split;unfold eZ;rfl;rfl
def drop_len{α:Type}(l:List α):(l.drop 1).length<=l.length:=by simp
def take_len(h:take t l=.ok a):a=l.drop 1/\l≠ []:=by
 unfold VaprbBase.take at h;split at h;rename_i b;injection h with h;refine{h.symm,λe=>?_};rw[e]at b;calc absurd (show false=true from b) (by decide);cases h
def oi(h:takeName l=.ok x):x.2.length+1=l.length/\x.2=l.drop 1:=by unfold takeName at h;split at h;split at h;cases h;grind;cases h
def oj(h:takeNum l=.ok x):x.2.length+1=l.length/\x.2=l.drop 1/\∃t,l.head? =some t/\t.place=x.1.1/\t.tok=.num x.1.2:=by
 unfold takeNum at h;split at h;injection h with h;subst h;calc{rfl,rfl,_,rfl,rfl,rfl};cases h
def qz(h:takeFrac l=.ok x):x.2.length<l.length/\∃t,l.head? =some t/\t.place=x.1.1:=by
 unfold takeFrac at h;cases ae:takeNum l with|error e=>rw[ae]at h;cases h|ok n=>
  erw[ae]at h;let(a1,a2,t,gg,s8,UM):=oj ae;erw[aF]at h;split at h;cases ag:takeNum (n.2.drop 1)with|error e=>rw[ag]at h;cases h|ok d=>
   rw[ag]at h;let(cp,_):=oj ag;simp[aF]at h;grind
  grind
def An(h:takeWeight l=.ok x):x.2.length<l.length:=by
 unfold takeWeight at h;cases ae:takeFrac l with|error e=>rw[ae]at h;cases h|ok n=>rw[ae]at h;have:=(qz ae).1;simp[aF]at h;grind
def om(h:d1 l=.ok x):x.2.length<l.length:=by
 unfold d1 at h;cases ae:takeName l with|error e=>rw[ae]at h;cases h|ok n=>
  rw[ae]at h;have a:=(oi ae).1;simp[aF]at h;cases ag:takeSign 58 n.2 with|error e=>rw[ag]at h;cases h|ok f=>
   rw[ag]at h;have b:=(take_len ag).1;simp[aF]at h;cases d:takeWeight f with|error e=>rw[d]at h;cases h|ok w=>rw[d]at h;have c:=An d;simp[aF]at h;(nofun;lia)
theorem qA:∀(n m k)l,l.length<n->l.length<m->takeSteps n k l=takeSteps m k l
 |0,_,_,_,h,_=>absurd h (Xv _)|_+1,0,_,_,_,h=>absurd h (Xv _)|n+1,m+1,k,l,ae,ag=>by
  erw[hF,hF];split;rfl;cases a:d1 l with|error e=>rfl|ok z=>erw[aF];have:=om a;have:=drop_len z.2;rw[qA n m (k+1) (z.2.drop 1) (by lia) (by lia)]
def fO(l:Toks):dM (Frac×Toks):=if next (.sign 91) l=true then takeFrac (l.drop 1)>>=λf=>takeSign 93 f.2>>=λl=>.ok (f.1.2,l)else .ok (Frac.zero,l)
def ig(a:List RawStep):Bool:=a.all λs=>s.weight.num==0
def fb(l:Toks):dM (List RawStep×Toks):=if next (.sign 1) l=true then takeSteps (l.length+1) 0 (l.drop 1)>>=λz=>if next (.sign 59) z.2=true/\ig z.1=true then .error {11,here l}else .ok z else .ok ([],l)
def v_:∀(n k)l z,takeSteps n k l=.ok z->z.1.isEmpty=false
 |0,_,_,_,h=>nomatch h|n+1,k,l,z,h=>by
  rw[hF]at h;split at h;nofun;cases a:d1 l with
  |error e=>rw[a]at h;cases h|ok y=>
   rw[a]at h;erw[aF]at h;split at h;cases ag:takeSteps n (k+1) (y.2.drop 1)with|error e=>rw[ag]at h;cases h|ok b=>
    rw[ag]at h;injection h with h;subst h;rfl
   grind
def dD(l:Toks):dM (RawNode×Toks):=takeName l>>=λx=>fO x.2>>=λf=>fb f.2>>=λa=>takeSign 59 a.2>>=λl=>.ok (⟨x.1,f.1,a.1⟩,l)
def s9(x:PName)(w:Frac)(l:Toks):dM (RawNode×Toks):=
 if next (.sign 1) l=true then takeSteps (l.length+1) 0 (l.drop 1)>>=λz=>takeSign 59 z.2>>=λa=>if z.1.isEmpty=false/\(z.1.all λs=>s.weight.num==0)=true then(Except.error {11,here l}>>=λ(_:PUnit)=>.ok (⟨x,w,z.1⟩,a))else .ok (⟨x,w,z.1⟩,a)
 else takeSign 59 l>>=λa=>.ok ({x,w,[]},a)
def rest_eq x w l:s9 x w l=fb l>>=λd=>takeSign 59 d.2>>=λl=>.ok (⟨x,w,d.1⟩,l):=by
 unfold s9 fb;by_cases b:next (.sign 1) l=true;rw[WO b,WO b];cases hs:takeSteps (l.length+1) 0 (l.drop 1)with|error e=>rfl|ok z=>
  have ne:=v_ _ _ _ _ hs;erw[aF];unfold takeSign VaprbBase.take ig;by_cases a:next (.sign 59) z.2=true;by_cases c:(z.1.all λs=>s.weight.num==0)=true;rw[WO a,WO ⟨a,c⟩];erw[aF,iP];nofun;rw[WO a,WM λh=>c h.2];erw[aF];rw[WM λh=>c h.2,WO a];rfl;rw[WM a,WM λh=>a h.1];simp[aF];rw[WM a];rfl
 rw[WM b,WM b];rfl
def mK l:takeNode l=dD l:=by
 unfold takeNode dD;cases takeName l with|error e=>rfl|ok x=>
  erw[aF];unfold fO;by_cases a:next (.sign 91) x.2=true;rw[WO a,WO a];cases takeFrac (x.2.drop 1)with|error e=>rfl|ok f=>
   erw[aF];cases takeSign 93 f.2 with|error e=>rfl|ok b=>erw[aF];rw[<-rest_eq];rfl
  rw[WM a,WM a];erw[aF];rw[<-rest_eq];rfl
def v'(h:fO l=.ok x):x.2.length<=l.length:=by
 unfold fO at h;split at h;cases ae:takeFrac (l.drop 1)with|error e=>rw[ae]at h;cases h|ok f=>
  rw[ae]at h;have a:=(qz ae).1;simp[aF]at h;cases ag:takeSign 93 f.2 with|error e=>rw[ag]at h;cases h|ok c=>
   rw[ag]at h;have b:=(take_len ag).1;injection h with h;subst h b;simp at a⊢;lia
 lia
theorem qB:∀(n k)l z,takeSteps n k l=.ok z->z.2.length<=l.length
 |0,_,_,_,h=>nomatch h|n+1,k,l,z,h=>by
  rw[hF]at h;split at h;nofun;cases c:d1 l with
  |error e=>rw[c]at h;cases h|ok y=>
   rw[c]at h;have a:=om c;erw[aF]at h;split at h;cases ag:takeSteps n (k+1) (y.2.drop 1)with|error e=>rw[ag]at h;cases h|ok d=>
    rw[ag]at h;have b:=qB n (k+1) _ d ag;have f:=drop_len y.2;injection h with h;subst h;show d.2.length<=_;lia
   lia
def wa(h:fb l=.ok x):x.2.length<=l.length:=by
 unfold fb at h;split at h;cases ae:takeSteps (l.length+1) 0 (l.drop 1)with|error e=>rw[ae]at h;cases h|ok z=>rw[ae]at h;have a:=qB _ _ _ _ ae;simp[aF]at h;split at h;cases h;cases h;simp at a;lia
 lia
def mL(h:dD l=.ok x):x.2.length<l.length:=by
 unfold dD at h;cases ae:takeName l with|error e=>rw[ae]at h;cases h|ok n=>
  rw[ae]at h;have a:=(oi ae).1;simp[aF]at h;cases ag:fO n.2 with|error e=>rw[ag]at h;cases h|ok f=>
   rw[ag]at h;have b:=v' ag;simp[aF]at h;cases g:fb f.2 with|error e=>rw[g]at h;cases h|ok j=>
    rw[g]at h;have c:=wa g;simp[aF]at h;cases i:takeSign 59 j.2 with|error e=>rw[i]at h;cases h|ok k=>
     rw[i]at h;have d:=(take_len i).1;injection h with h;grind
def d4:Nat->Nat->Toks->dM (List RawNode×Toks)|0,_,l=>.ok ([],l)|n+1,k,l=>if nameNext l=true then(if STATES<=k then .error {4,here l}else dD l>>=λz=>eZ z.1 (d4 n (k+1) z.2))else .ok ([],l)
def fV(l:Toks):dM (List RawNode×Toks):=dD l>>=λz=>eZ z.1 (d4 (z.2.length+1) 1 z.2)
def oo(l:Toks):dM (List RawNode×Toks):=fV l>>=λz=>takeWord "tell" z.2>>=λl=>.ok (z.1,l)
def wb(h:nameNext l=true):¬next (.name (word "tell")) l=true:=by
 intro ag;cases l with|nil=>calc absurd h (by decide)|cons t r=>
  have e:=eq_of_beq ag;let(p,k):=t;subst e;exact absurd (show(!RESERVED.contains (word "tell"))=true from h) (by decide+kernel)
def qC(h:¬nameNext l=true):takeName l=.error {3,here l}:=by
 cases l with|nil=>rfl|cons t r=>
  let(p,k):=t;cases k with|name b=>
   have a:RESERVED.contains b=true:=by
    cases z:RESERVED.contains b with|true=>rfl|false=>exact absurd (show(!RESERVED.contains b)=true by rw[z];rfl) h
   show(if RESERVED.contains b=true then _ else _)=_;rw[WO a];rfl|num n=>rfl|sign c=>rfl|halt_=>rfl
theorem qD:∀(n m k)l,l.length<n->l.length<m->0<k->(takeNodes n k l>>=λz=>.ok (z.1,z.2.drop 1))=(d4 m k l>>=λz=>takeWord "tell" z.2>>=λl=>.ok (z.1,l))
 |0,_,_,_,h,_,_=>absurd h (Xv _)|_+1,0,_,_,_,h,_=>absurd h (Xv _)|n+1,m+1,k,l,ae,ag,ak=>by
  show((if next (.name (word "tell")) l=true/\0<k then _ else if nameNext l=true/\STATES<=k then _ else _)>>=_)=((if nameNext l=true then _ else _)>>=_);by_cases b:next (.name (word "tell")) l=true;have i:=λz=>wb z b;rw[WO ⟨b,ak⟩,WM i];erw[aF];unfold takeWord VaprbBase.take;rw[WO b];rfl;rw[WM λz=>b z.1];by_cases c:nameNext l=true;rw[WO c];by_cases hs:STATES<=k;rw[WO ⟨c,hs⟩,WO hs];rfl;rw[WM λz=>hs z.2,WM hs,mK];cases j:dD l with|error e=>rfl|ok z=>
   have hl:=mL j;erw[aF];have a:=qD n m (k+1) z.2 (by lia) (by lia) (by nofun);unfold eZ;cases g:takeNodes n (k+1) z.2 with
   |error e=>
    rw[g]at a;cases d:d4 m (k+1) z.2 with
    |error o=>rwa[d]at a|ok y=>
     rw[d]at a;simp[aF,iP]at a⊢;cases f:takeWord "tell" y.2 with
     |error p=>rwa[f]at a|ok q=>rw[f]at a;cases a
   |ok y=>
    rw[g]at a;cases d:d4 m (k+1) z.2 with|error o=>rw[d]at a;cases a|ok r=>
     rw[d]at a;simp[aF]at a⊢;cases f:takeWord "tell" r.2 with|error p=>rw[f]at a;cases a|ok q=>
      rw[f]at a;simp only[aF]at a⊢;injection a with a;injection a with s bp;erw[s,bp]
  rw[WM λz=>c z.1,WM c,mK];unfold dD;rw[qC c];simp[aF,iP];unfold takeWord VaprbBase.take;rw[WM b];rfl
def wc l:(takeNodes (l.length+1) 0 l>>=λz=>.ok (z.1,z.2.drop 1))=oo l:=by
 show((if next (.name (word "tell")) l=true/\0<0 then _ else if nameNext l=true/\STATES<=0 then _ else _)>>=_)=_;rw[WM λz=>Yn _ z.2,WM λz=>absurd z.2 (by decide),mK];unfold oo fV;cases f:dD l with
 |error e=>rfl|ok z=>
  have hl:=mL f;simp[aF];have a:=qD l.length (z.2.length+1) 1 z.2 hl (Yo _) (by decide);unfold eZ;cases d:takeNodes l.length 1 z.2 with
  |error e=>
   rw[d]at a;cases b:d4 (z.2.length+1) 1 z.2 with
   |error g=>rwa[b]at a|ok y=>
    rw[b]at a;simp[aF,iP]at a⊢;cases c:takeWord "tell" y.2 with
    |error h=>rwa[c]at a|ok i=>rw[c]at a;cases a
  |ok y=>
   rw[d]at a;cases b:d4 (z.2.length+1) 1 z.2 with
   |error g=>rw[b]at a;cases a|ok j=>
    rw[b]at a;simp[aF]at a⊢;cases c:takeWord "tell" j.2 with|error h=>rw[c]at a;cases a|ok i=>rw[c]at a;simp[aF]at a⊢;omega
structure d5(f:VaprbBase.Frac):Prop where
 pos:0<f.den
 iF:Nat.Coprime f.num.natAbs f.den
 top:f.num.natAbs<=1000000000
 bot:f.den<=1000000000
def wd:d5 VaprbBase.Frac.zero:={by decide,by decide,by decide,by decide}
def we(h:z.natAbs<=1000000000):d5 (VaprbBase.Frac.ofInt z):={Nat.one_pos,Nat.coprime_one_right _,h,by show 1<=_;decide}
def s_(h:z.natAbs<=1000000000)(a:0<d)(ae:d<=1000000000):d5 (frac z d):=by
 have b:0<Nat.gcd z.natAbs d:=XY _ a;have e:frac z d={z/(Nat.gcd z.natAbs d),d/Nat.gcd z.natAbs d}:=by unfold frac;grind
 have c:(z/((Nat.gcd z.natAbs d))).natAbs=z.natAbs/Nat.gcd z.natAbs d:=by rw[Yh (XK.mpr (XN _ _)),W8]
 rw[e];refine{Y' (aa5 _ a) b,?_,?_,W1 (Ya _ _) ae};show Nat.Coprime (z/((Nat.gcd z.natAbs d))).natAbs _;rw[c];calc YR b;show(z/((Nat.gcd z.natAbs d))).natAbs<=_;rw[c];calc W1 (Ya _ _) h
structure qE(t:PTok):Prop where
 num:∀z,t.tok=.num z->z.natAbs<=1000000000
 name:∀b,t.tok=.name b->b.length<=16
abbrev b6(l:Toks):Prop:=∀t∈l,qE t
def iQ(h:b6 l)n:b6 (l.drop n):=λt a=>h t (Zw a)
def qF{l:List UInt8}(h:numberOf b l=some z):z.natAbs<=1000000000:=by unfold numberOf at h;split at h;grind;split at h;grind;rename_i ae ag;have a:decimal l<=1000000000:=Z6 λz=>ag (.inl z);(nofun;omega)
def Ao{l:List UInt8}(h:token l=some (t,k)):t≠.halt_/\∀p,qE ⟨p,t⟩:=by
 unfold VaprbBase.token at h;split at h;grind;split at h;simp only at h;split at h;cases h;rename_i a;injection h with h;injection h with ae ag;subst ae;exact{λz=>(nomatch z),λp=>{λz e=>(nomatch e),λb e=>by injection e with e;subst e;calc Z6 a}};split at h;erw[XQ]at h;let(n,c0,h):=h;injection h with ae ag;subst ae;exact{λz=>(nomatch z),λp=>{λz e=>by injection e with e;rw[<-e];calc qF c0,λb e=>(nomatch e)}};split at h;split at h;injection h with h;injection h with ae ag;subst ae;calc{λz=>(nomatch z),λp=>{λz e=>(nomatch e),λb e=>(nomatch e)}};erw[XQ]at h;let(n,c0,h):=h;injection h with ae ag;subst ae;exact{λz=>(nomatch z),λp=>{λz e=>by injection e with e;rw[<-e];calc qF c0,λb e=>(nomatch e)}};split at h;injection h with h;injection h with ae ag;subst ae;calc{λz=>(nomatch z),λp=>{λz e=>(nomatch e),λb e=>(nomatch e)}};grind
def j4(h:takeName l=.ok x)(hl:b6 l):x.1.name.length<=16/\b6 x.2:=by
 have e:=(oi h).2;refine{?_,by grind};unfold takeName at h;split at h;rename_i p b r;split at h;cases h;injection h with h;subst h;calc(hl {p,.name b} (WD ..)).name b rfl;cases h
def qG(h:takeNum l=.ok x)(hl:b6 l):x.1.2.natAbs<=1000000000/\b6 x.2:=by
 let(_,e,t,bW,_,dn):=oj h;exact{(hl t (abh bW)).num _ dn,by grind}
def jn(h:take t l=.ok a)(hl:b6 l):b6 a:=by rw[(take_len h).1];grind
def qH(h:takeFrac l=.ok x)(hl:b6 l):d5 x.1.2/\b6 x.2:=by
 unfold takeFrac at h;cases ae:takeNum l with|error e=>rw[ae]at h;cases h|ok n=>
  erw[ae]at h;let(a1,a2):=qG ae hl;erw[aF]at h;split at h;cases ag:takeNum (n.2.drop 1)with|error e=>rw[ag]at h;cases h|ok d=>
   rw[ag]at h;let(cp,b4):=qG ag (iQ a2 1);simp[aF]at h;split at h;cases h;injection h with h;subst h;exact{s_ a1 (by (simp;omega)) (by (simp;omega)),b4}
  injection h with h;subst h;calc{we a1,a2}
structure mM(s:RawStep):Prop where
 name:s.to.name.length<=16
 fq:d5 s.weight
 pos:0<=s.weight.num
def wg(h:d1 l=.ok x)(hl:b6 l):mM x.1/\b6 x.2:=by
 unfold d1 at h;cases ae:takeName l with|error e=>rw[ae]at h;cases h|ok n=>
  rw[ae]at h;let(a1,a2):=j4 ae hl;simp[aF]at h;cases ag:takeSign 58 n.2 with|error e=>rw[ag]at h;cases h|ok d=>
   rw[ag]at h;have b:=jn ag a2;simp[aF]at h;unfold takeWeight at h;cases a:takeFrac d with|error e=>rw[a]at h;cases h|ok w=>
    rw[a]at h;let(hG,g7):=qH a b;simp[aF]at h;by_cases c:w.1.2.num<0;rw[WO c]at h;cases h;rw[WM c]at h;injection h with h;subst h;exact{{a1,hG,by show 0<=w.1.2.num;nofun},g7}
theorem qI:∀(n k)l z,takeSteps n k l=.ok z->b6 l->k<=8->(∀s∈z.1,mM s)/\k+z.1.length<=8/\b6 z.2
 |0,_,_,_,h,_,_=>nomatch h|n+1,k,l,z,h,hl,ak=>by
  rw[hF]at h;split at h;nofun;rename_i b;cases a:d1 l with
  |error e=>rw[a]at h;cases h|ok y=>
   rw[a]at h;have⟨a1,a2⟩:=wg a hl;have d:k<8:=by refine aaC ak λe=>?_;by_cases c:nameNext l=true;exact b {c,by show 8<=k;nofun};unfold d1 at a;rw[qC c]at a;cases a
   erw[aF]at h;split at h;unfold eZ at h;cases ag:takeSteps n (k+1) (y.2.drop 1)with|error e=>rw[ag]at h;cases h|ok f=>
    rw[ag]at h;have⟨cp,b4,ih⟩:=qI n (k+1) _ f ag (iQ a2 1) (by lia);simp[aF]at h;grind
   grind
structure qJ(x:RawNode):Prop where
 name:x.name.name.length<=16
 worth:d5 x.worth
 steps:∀s∈x.steps,mM s
 bj:x.steps.length<=8
 iR:x.steps=[]\/ig x.steps=false
def wi(h:fO l=.ok x)(hl:b6 l):d5 x.1/\b6 x.2:=by
 unfold fO at h;split at h;cases ae:takeFrac (l.drop 1)with|error e=>rw[ae]at h;cases h|ok f=>
  rw[ae]at h;let(a1,a2):=qH ae (iQ hl 1);simp[aF]at h;cases ag:takeSign 93 f.2 with|error e=>rw[ag]at h;cases h|ok a=>
   rw[ag]at h;have b:=jn ag a2;injection h with h;grind
 injection h with h;subst h;calc⟨wd,hl⟩
def wj(h:fb l=.ok x)(hl:b6 l):(∀s∈x.1,mM s)/\x.1.length<=8/\b6 x.2/\(x.1=[]\/next (.sign 59) x.2=false\/ig x.1=false):=by
 unfold fb at h;split at h;cases ae:takeSteps (l.length+1) 0 (l.drop 1)with|error e=>rw[ae]at h;cases h|ok z=>
  rw[ae]at h;let(a1,a2,gg):=qI _ _ _ _ ae (iQ hl 1) (Xk _);simp[aF]at h;grind
 grind
def qK(h:dD l=.ok x)(hl:b6 l):qJ x.1/\b6 x.2:=by
 unfold dD at h;cases ae:takeName l with|error e=>rw[ae]at h;cases h|ok n=>
  rw[ae]at h;let(a1,a2):=j4 ae hl;simp[aF]at h;cases ag:fO n.2 with|error e=>rw[ag]at h;cases h|ok f=>
   rw[ag]at h;let(cp,b4):=wi ag a2;simp[aF]at h;cases b:fb f.2 with|error e=>rw[b]at h;cases h|ok c=>
    rw[b]at h;let(hG,g7,wk,fW):=wj b b4;simp[aF]at h;cases a:takeSign 59 c.2 with|error e=>rw[a]at h;cases h|ok g=>
     rw[a]at h;have d:=jn a wk;injection h with h;subst h;refine{{a1,cp,hG,g7,?_},d};rcases fW with fW|fW|fW;nofun;unfold takeSign VaprbBase.take at a;rw[fW]at a;cases a;nofun
theorem qL:∀(n k)l z,d4 n k l=.ok z->b6 l->k<=24->(∀x∈z.1,qJ x)/\k+z.1.length<=24/\b6 z.2
 |0,k,l,z,h,hl,ak=>by injection h with h;subst h;calc{λx f=>(by nofun),ak,hl}|n+1,k,l,z,h,hl,ak=>by
  unfold d4 at h;split at h;split at h;nofun;rename_i a;cases b:dD l with
  |error e=>rw[b]at h;cases h|ok y=>
   rw[b]at h;let(a1,a2):=qK b hl;simp[aF]at h;cases ag:d4 n (k+1) y.2 with|error e=>rw[ag]at h;cases h|ok c=>
    rw[ag]at h;have d:k<24:=Nat.lt_of_not_le a;let(cp,b4,ih):=qL n (k+1) _ c ag a2 (by lia);injection h with h;subst h;refine{λs hs=>?_,?_,ih};rcases WW.mp hs with hs|hs;rwa[hs];calc cp s hs;show k+(y.1::c.1).length<=24;rw[WL];lia
  grind
structure wm(rs:List RawNode):Prop where
 all:∀x∈rs,qJ x
 pos:0<rs.length
 bj:rs.length<=24
def wn(h:fV l=.ok z)(hl:b6 l):wm z.1/\b6 z.2:=by
 unfold fV at h;cases a:dD l with|error e=>rw[a]at h;cases h|ok y=>
  rw[a]at h;let(a1,a2):=qK a hl;simp[aF]at h;cases ag:d4 (y.2.length+1) 1 y.2 with|error e=>rw[ag]at h;cases h|ok b=>
   rw[ag]at h;let(cp,b4,ih):=qL _ _ _ b ag a2 (by decide);injection h with h;subst h;refine{{λs hs=>?_,by simp,by grind},ih};grind
abbrev mN:=List UInt8×List RawNode×PName
def jo(l:Toks):dM mN:=takeWord "chance" l>>=λl=>takeName l>>=λt=>fV t.2>>=λz=>takeWord "tell" z.2>>=λl=>takeName l>>=λs=>if next .halt_ s.2=true then .ok (t.1.name,z.1,s.1)else .error {3,here s.2}
structure ta(c:mN):Prop where
 title:c.1.length<=16
 rs:wm c.2.1
 start:c.2.2.name.length<=16
def Ap(h:jo l=.ok c)(hl:b6 l):ta c:=by
 unfold jo at h;cases ae:takeWord "chance" l with|error e=>rw[ae]at h;cases h|ok i=>
  rw[ae]at h;have a:=jn ae hl;simp[aF]at h;cases ag:takeName i with|error e=>rw[ag]at h;cases h|ok t=>
   rw[ag]at h;let(cp,b4):=j4 ag a;simp[aF]at h;cases b:fV t.2 with|error e=>rw[b]at h;cases h|ok z=>
    rw[b]at h;let(hG,g7):=wn b b4;simp[aF]at h;cases f:takeWord "tell" z.2 with|error e=>rw[f]at h;cases h|ok j=>
     rw[f]at h;have d:=jn f g7;simp[aF]at h;cases g:takeName j with|error e=>rw[g]at h;cases h|ok s=>
      rw[g]at h;let(cx,dn):=j4 g d;simp[aF]at h;split at h;injection h with h;subst h;calc⟨cp,hG,cx⟩;nofun
def iS(rs:List RawNode)(s:PName):dM (List Node×Nat):=nodesOf rs [] rs>>=λns=>match placeIn rs s.name with|none=>.error {6,s.place}|some i=>.ok (ns,i)
def qM(b:Bytes):dM Chain:=tokens b>>=λl=>jo l>>=λc=>iS c.2.1 c.2.2>>=λn=>if TEXT<(Chain.shown ⟨c.1,n.1,n.2⟩).length then .error {10,0}else .ok ⟨c.1,n.1,n.2⟩
def Aq b:Vaprbq.read b=qM b:=by
 unfold Vaprbq.read qM;cases tokens b with|error e=>rfl|ok l=>
  erw[aF];unfold jo;cases takeWord "chance" l with
  |error e=>rfl|ok h=>
   erw[aF];cases takeName h with
   |error e=>rfl|ok t=>
    erw[aF];have key:=wc t.2;unfold oo at key;cases f:takeNodes (t.2.length+1) 0 t.2 with
    |error e=>
     rw[f]at key;cases a:fV t.2 with
     |error d=>rw[a]at key;cases key;rfl|ok z=>
      rw[a]at key;simp[aF,iP]at key⊢;cases c:takeWord "tell" z.2 with|error d=>rw[c]at key;cases key;rfl|ok g=>rw[c]at key;cases key
    |ok y=>
     rw[f]at key;cases a:fV t.2 with
     |error d=>rw[a]at key;cases key|ok z=>
      rw[a]at key;simp[aF]at key⊢;cases c:takeWord "tell" z.2 with|error d=>rw[c]at key;cases key|ok g=>
       rw[c]at key;simp only[aF]at key⊢;injection key with key;injection key with k1 k2;rw[k1,k2];cases takeName g with|error e=>rfl|ok s=>
        erw[aF];by_cases aI:next .halt_ s.2=true;rw[WO aI,WM (by rw[aI];decide)];erw[aF];unfold iS;cases nodesOf z.1 [] z.1 with|error e=>rfl|ok ns=>
         cases placeIn z.1 s.1.name with|none=>rfl|some i=>rfl
        rw[WM aI,WO (by simpa using aI)];rfl
structure NodeOk(n:Nat)(s:Node):Prop where
 name:s.name.length<=16
 worth:d5 s.worth
 bj:s.steps.length<=8
 steps:∀p∈s.steps,p.1<n/\d5 p.2/\0<=p.2.num
 nodup:(s.steps.map (·.1)).Nodup
 iR:s.steps=[]\/∃p∈s.steps,p.2.num≠0
structure aY(c:Chain):Prop where
 title:c.title.length<=16
 pos:0<c.states.length
 bj:c.states.length<=24
 nodes:∀s∈c.states,NodeOk c.states.length s
 start:c.start<c.states.length
def tb{b:List UInt8}(h:placeIn rs b=some i):i<rs.length:=by unfold placeIn at h;rw[X9]at h;calc h.1
def tc{b:List UInt8}(h:placeIn rs b=some i):∃x,rs[i]? =some x/\x.name.name=b:=by unfold placeIn at h;rw[X9]at h;grind
def wo{b c:List UInt8}(ae:placeIn rs b=some i)(ag:placeIn rs c=some i):b=c:=by
 let(x,cx,dn):=tc ae;let(y,cS,lu):=tc ag;nofun
theorem lx:∀all a b l,stepsOf all a b=.ok l->
  l=b.map (λs=>((placeIn all s.to.name).getD 0,s.weight))/\(∀s∈b,∃i,placeIn all s.to.name=some i/\¬a.contains s.to.name=true)/\(b.map (·.to.name)).Nodup
 |all,a,[],l,h=>by injection h with h;subst h;calc{rfl,λs hs=>(by nofun),Yd}|all,a,s::r,l,h=>by
  have e:stepsOf all a (s::r)=match placeIn all s.to.name with|none=>.error {6,s.to.place}|some i=>if a.contains s.to.name=true then .error {5,s.to.place}else stepsOf all (a++[s.to.name]) r>>=λl=>.ok ((i,s.weight)::l):=rfl;rw[e]at h;cases c:placeIn all s.to.name with|none=>nofun|some i=>
   rw[c]at h;simp only at h;by_cases d:a.contains s.to.name=true;grind;rw[WM d]at h;cases ag:stepsOf all (a++[s.to.name]) r with|error f=>rw[ag]at h;cases h|ok g=>
    rw[ag]at h;injection h with h;subst h;let(a1,a2,gg):=lx all _ r g ag;refine{by rw[a1,WU,c];rfl,λx aB=>?_,?_};rcases WW.mp aB with aB|aB;rw[aB];calc⟨i,c,d⟩;let(j,h6,k7):=a2 x aB;refine{j,h6,λz=>k7 ?_};rw[WX]at z⊢;calc Xa _ z;rw[WU,W3];refine{λz=>?_,gg};let(x,aB,e):=WT.mp z;let(j,h6,k7):=a2 x aB;refine k7 ?_;rw[WX,e];calc WZ _ (WQ.mpr rfl)
def qN(all:List RawNode)(x:RawNode):Node:={x.name.name,x.worth,x.steps.map λs=>((placeIn all s.to.name).getD 0,s.weight)}
theorem oq:∀all a rs l,nodesOf all a rs=.ok l->l=rs.map (qN all)/\∀x∈rs,∃b,stepsOf all [] x.steps=.ok b
 |all,a,[],l,h=>by injection h with h;subst h;exact{rfl,λx c=>by cases c}|all,a,x::r,l,h=>by
  have e:nodesOf all a (x::r)=if a.contains x.name.name=true then .error {5,x.name.place}else
   stepsOf all [] x.steps>>=λb=>nodesOf all (a++[x.name.name]) r>>=λl=>.ok (⟨x.name.name,x.worth,b⟩::l):=rfl
  rw[e]at h;by_cases d:a.contains x.name.name=true;grind;rw[WM d]at h;cases ae:stepsOf all [] x.steps with
  |error f=>rw[ae]at h;cases h|ok b=>
   rw[ae]at h;cases ag:nodesOf all (a++[x.name.name]) r with|error f=>rw[ag]at h;cases h|ok g=>
    rw[ag]at h;injection h with h;subst h;let(a1,a2):=oq all _ r g ag;refine{?_,λy i=>?_};rw[a1,(lx _ _ _ _ ae).1];rfl;grind
def Ar(hc:ta c)(h:iS c.2.1 c.2.2=.ok n):n.1=c.2.1.map (qN c.2.1)/\placeIn c.2.1 c.2.2.name=some n.2/\aY ⟨c.1,n.1,n.2⟩:=by
 unfold iS at h;cases ae:nodesOf c.2.1 [] c.2.1 with|error f=>rw[ae]at h;cases h|ok ns=>
  rw[ae]at h;simp[aF]at h;cases ag:placeIn c.2.1 c.2.2.name with|none=>nofun|some i=>
   rw[ag]at h;injection h with h;subst h;let(a1,a2):=oq _ _ _ _ ae;have hl:ns.length=c.2.1.length:=by nofun
   refine{a1,rfl,hc.title,by rw[hl];calc hc.rs.pos,by rw[hl];calc hc.rs.bj,λs hs=>?_,by rw[hl];calc tb ag};erw[a1]at hs;let(x,b,rfl):=WT.mp hs;let(ss,wq):=a2 x b;let(cp,b4,ih):=lx _ _ _ _ wq;have nx:=hc.rs.all x b;refine{nx.name,nx.worth,by show(x.steps.map _).length<=8;rw[WC];calc nx.bj,λp g=>?_,?_,?_};let(s,hs,rfl):=WT.mp g;let(j,a',_):=b4 s hs;have d:=nx.steps s hs;refine{?_,d.fq,d.pos};erw[a',hl];calc tb a';show((x.steps.map λs=>((placeIn c.2.1 s.to.name).getD 0,s.weight)).map (·.1)).Nodup;have key:∀(l:List RawStep),(∀s∈l,∃i,placeIn c.2.1 s.to.name=some i)->(l.map (·.to.name)).Nodup->(l.map ((·.1)∘λs=>((placeIn c.2.1 s.to.name).getD 0,s.weight))).Nodup:=by
    intro l;induction l with|nil=>calc λ_ _=>Yd|cons a r k=>
     intro ae ag;rw[WU,W3]at ag⊢;refine{λz=>ag.1 ?_,k (λs hs=>ae s (WE _ hs)) ag.2};let(y,aN,e):=WT.mp z;let(i,af):=ae a (WD ..);let(j,a'):=ae y (WE _ aN);have e:(placeIn c.2.1 y.to.name).getD 0=(placeIn c.2.1 a.to.name).getD 0:=e;rw[af,a']at e;have e:j=i:=e;rw[e]at a';rw[wo af a'];grind
   nofun;rcases nx.iR with z|z;refine .inl ?_;show x.steps.map _=[];nofun;refine .inr ?_;unfold ig at z;rw[List.all_eq_false]at z;let(s,hs,e):=z;refine{_,WT.mpr ⟨s,hs,rfl⟩,?_};nofun
def wr(h:n<=1000000000):(showNat n).length<=10:=by unfold showNat;rw[WC,Nat.length_toDigits_le_iff (by decide) (by decide)];lia
def As(h:z.natAbs<=1000000000):(showInt z).length<=11:=by unfold showInt;have:=wr h;grind
def td(h:d5 f):(showFrac f).length<=22:=by unfold showFrac;have a:=As h.top;have b:=wr h.bot;(simp;grind)
def ly(h:aY c)i:(c.name i).length<=16:=by
 unfold Chain.name;cases e:c.states[i]? with|none=>simp|some s=>calc(h.nodes s (WS e)).name
def a3{α:Type}:List α->(α->Rat)->Rat|[],_=>0|x::r,f=>f x+a3 r f
def dE{α:Type}x r(f:α->Rat):a3 (x::r) f=f x+a3 r f:=rfl
theorem gH{α a:Type}g:∀(l:List α)(f:a->Rat),a3 (l.map g) f=a3 l λx=>f (g x)|[],_=>rfl|x::r,f=>by erw[WU,dE,dE,gH g r]
theorem mO{α:Type}k:∀l(f:α->Rat),a3 l (λx=>k*f x)=k*a3 l f|[],f=>by show(0:Rat)=k*0;simp|x::r,f=>by erw[dE,dE,mO k r];grind
theorem ot:∀{l:List α}{f g:α->Rat},(∀x∈l,f x=g x)->a3 l f=a3 l g|[],_,_,_=>rfl|x::r,f,g,h=>by erw[dE,dE,h x (WD ..),ot λy a=>h y (WE _ a)]
theorem mP:∀{l:List α}{f:α->Rat},(∀x∈l,0<=f x)->0<=a3 l f|[],_,_=>by show(0:Rat)<=0;simp|x::r,f,h=>by have ag:=mP λy a=>h y (WE _ a);erw[dE];grind
theorem ou:∀{l:List α}{f:α->Rat},(∀x∈l,0<=f x)->∀k∈l,f k<=a3 l f
 |x::r,f,h,k,ak=>by
  have ag:=mP λi af=>h i (WE _ af);erw[dE];rcases WW.mp ak with e|ak;grind;have a:=ou (λi af=>h i (WE _ af)) k ak;grind
theorem qO:∀l a,aU a->(∀f∈l,aU f)->val (l.foldl Frac.add a)=val a+a3 l val|[],a,_,_=>by show val a=val a+0;grind|x::r,a,b,h=>by show val (r.foldl Frac.add (a.add x))=_;erw[qO r _ (k_ _ _) λi af=>h i (WE _ af),val_add b (h x (WD ..)),dE];grind
def wt l(h:∀f∈l,aU f):val (Frac.sum l)=a3 l val:=by unfold Frac.sum;rw[qO l _ dp h,val_zero];grind
def bV:List Int->Int|[]=>0|x::r=>x+bV r
theorem j5:∀l,((bV l))=a3 l λx=>x|[]=>rfl|x::r=>by show((x+bV r:Int):Rat)=_;rw[X_,j5 r];rfl
def bO(r:List (Nat×Int)):Int:=bV (r.map (·.2))
def bq(r:List (Nat×Int))(j:Nat):Int:=bV ((r.filter λp=>p.1==j).map (·.2))
def gI p r j:bq (p::r) j=(if p.1=j then p.2 else 0)+bq r j:=by unfold bq;by_cases e:p.1=j;rw[XF (by nofun),WO e];rfl;nofun
theorem mQ(f:Nat->Rat):∀r,(∀p∈r,p.1<n)->a3 r (λp=>p.2*f p.1)=aq (List.range n) λj=>(bq r j)*f j
 |[],_=>(fk λj _=>by show(0)*_=0;simp).symm|p::r,h=>by
  erw[dE,mQ f r λq a=>h q (WE _ a)];have e:aq (List.range n) (λj=>(bq (p::r) j)*f j)=aq (List.range n) (λj=>(if p.1=j then 1 else 0)*(p.2*f j)+(bq r j)*f j):=br λj _=>by erw[gI,X_];by_cases e:p.1=j;grind;erw[WM e,Xo];grind
  erw[e,iE,g6 (nodup_range n) (WN.mpr (h p (WD ..)))]
structure Row(n:Nat)(P:Nat->Rat)(r:List (Nat×Int)):Prop where
 lt:∀p∈r,p.1<n
 pos:∀p∈r,0<p.2
 nodup:(r.map (·.1)).Nodup
 dN:0<bO r
 small:bO r<2^273
 is:∀j,(bq r j:Rat)=bO r*P j
def ov r:((bO r))=a3 r (λp=>p.2):=by unfold bO;rw[j5,gH]
theorem jp:∀{r:List (Nat×Int)}{j:Nat},j∉r.map (·.1)->bq r j=0|[],_,_=>rfl|p::r,j,h=>by rw[gI,WM λe=>h (by grind),jp λz=>h (by simp[*])];rfl
theorem j6:∀{r:List (Nat×Int)}{p:Nat×Int},(r.map (·.1)).Nodup->p∈r->bq r p.1=p.2
 |q::r,p,a,a8=>by
  rw[WU,W3]at a;rw[gI];rcases WW.mp a8 with e|a8;rw[<-e,jp (by lia)];nofun;rw[WM λe=>a.1 (by nofun),j6 a.2 a8];nofun
def tf(h:Row n P r)j:0<P j↔∃p∈r,p.1=j:=by have b:=W7.mpr h.dN;have c:=h.is j;constructor;intro a;apply WR;intro hz;rw[jp λz=>hz (by nofun),Xo]at c;have:=XR b a;nofun;intro⟨p,a,e⟩;rw[<-e,j6 h.nodup a,e]at c;have ae:=W7.mpr (h.pos p a);apply WR;intro hz;have:0<=(bO r)*(-(P j)):=Xf (XJ b) (by grind);grind
def b'(a:List Frac):Nat:=a.foldl (λb w=>Nat.lcm b w.den) 1
def c5(a:List Frac):List Int:=a.map λw=>w.num*((b' a/w.den:Nat))
def gcdAll(xs:List Int):Nat:=xs.foldl (λd s=>Nat.gcd s.natAbs d) 0
def gJ(a:List Frac):List Int:=(c5 a).map λt=>t/(gcdAll (c5 a))
theorem j7:∀(a:List Frac)b,0<b->(∀w∈a,0<w.den)->0<a.foldl (λb w=>Nat.lcm b w.den) b/\b∣a.foldl (λb w=>Nat.lcm b w.den) b/\(∀w∈a,w.den∣a.foldl (λb w=>Nat.lcm b w.den) b)/\∀D,(∀w∈a,w.den<=D)->a.foldl (λb w=>Nat.lcm b w.den) b<=b*D^a.length
 |[],b,c,_=>{c,Yf b,(λw hw=>absurd hw (by simp)),λD _=>by show b<=b*1;nofun}|x::r,b,c,h=>by
  have d:=h x (WD ..);let(eJ,bp,ow,ox):=j7 r (Nat.lcm b x.den) (ZE c d) λw hw=>h w (WE _ hw);refine{eJ,X1 (Zf ..) bp,λw hw=>?_,λD f=>?_};rcases WW.mp hw with e|hw;rw[e];exact X1 (Y2 ..) bp;nofun;refine W1 (ox D λw hw=>f w (WE _ hw)) ?_;have ae:=W1 (X8 (YM c d) (aao ..)) (Zc b (f x (WD ..)));calc Nat.lcm b x.den*D^r.length<=b*D*D^r.length:=XH _ ae
   _=b*(D^r.length*D):=by grind
theorem qP:∀(xs:List Int)(d e),e∣xs.foldl (λd s=>Nat.gcd s.natAbs d) d↔e∣d/\∀x∈xs,e∣x.natAbs|[],d,e=>by simp|x::r,d,e=>by rw[Yk,qP r,aan,Z'];grind
def wu(h:x∈xs):(gcdAll xs:Int)∣x:=XK.mpr (((qP xs 0 _).mp (Yf _)).2 x h)
def wv(h:x∈xs)(a:x≠0):0<gcdAll xs:=by apply YJ;intro e;have:=wu h;rw[e]at this;nofun
structure oy(ws:List Frac):Prop where
 bj:ws.length<=8
 ok:∀w∈ws,d5 w/\0<=w.num
 iR:∃w∈ws,w.num≠0
def iT(h:d5 f):aU f:=⟨h.pos,h.iF⟩
def tg(h:∀w∈a,d5 w)(b:w∈a):((w.num*((b' a/w.den:Nat)):Int))=val w*((b' a):Int):=by
 let(eJ,_,ow,_):=j7 a 1 (by nofun) λw b=>(h w b).pos;have c:=(h w b).pos;let(k,ak):=ow w b;have ak:b' a=w.den*k:=ak;rw[ak,Za _ c,W6];unfold val;have:=fm (Xr c);grind
def ww(h:oy a):∃k,0<k/\gJ a=a.map (λw=>w.num*((b' a/w.den:Nat))/(gcdAll (c5 a):Int))/\
  ∀w∈a,((w.num*((b' a/w.den:Nat))/(gcdAll (c5 a)):Int))=k*val w/\0<=w.num*((b' a/w.den:Nat))/(gcdAll (c5 a))/\
   w.num*((b' a/w.den:Nat))/(gcdAll (c5 a))<=10^81:=by
 let(eJ,_,ow,ox):=j7 a 1 (by nofun) λw b=>(h.ok w b).1.pos;have d:0<gcdAll (c5 a):=by
  let(w,b,h0):=h.iR;refine wv (WT.mpr ⟨w,b,rfl⟩) ?_;have:0<b' a/w.den:=Y' (X8 eJ (ow w b)) (h.ok w b).1.pos;exact abi h0 (by lia)
 have f:=cast_pos eJ;have g:=cast_pos d;refine{((b' a):Int)/((gcdAll (c5 a)):Int),?_,?_,λw b=>{?_,?_,?_}};rw[Yq];exact XR f (Y9.mpr g);unfold gJ;show(a.map _).map _=_;rw[Xg];rfl;let(q,a9):=wu (xs:=c5 a) (WT.mpr ⟨w,b,rfl⟩);have e:=tg (λw b=>(h.ok w b).1) b;rw[a9,Xx _ (by lia)];rw[a9,W6]at e;grind;have c:=(h.ok w b).2;exact ZN (YH c (YW _)) (by nofun);have c:=(h.ok w b).2;refine Int.le_trans (aa6 _ (YH c (YW _))) ?_;have i:w.num<=10^9:=by have:=(h.ok w b).1.top;lia
 have j:b' a/w.den<=10^72:=by refine W1 (Ya ..) ?_;refine W1 (ox (10^9) λw b=>(h.ok w b).1.bot) ?_;rw[ZW,<-ZX];exact XX (by nofun) (by have:=h.bj;lia)
 calc w.num*((b' a/w.den))<=10^9*10^72:=Int.mul_le_mul i (by lia) (YW _) (by decide)
  _=10^81:=by decide
def ft(a:List (Nat×Frac)):List (Nat×Int):=(a.map (·.1)).zip (gJ (a.map (·.2)))
def rowOf(c:Chain)(i:Nat):List (Nat×Int):=if(c.node i).steps=[]then [(i,1)]else(ft (c.node i).steps).filter λp=>decide (0<p.2)
def gK(hc:aY c)(af:i<c.size):NodeOk c.size (c.node i):=by
 have e:=WK af;have:c.node i=c.states[i]:=by unfold Chain.node;rw[e];rfl
 rw[this];calc hc.nodes _ (Ze af)
def qQ(h:NodeOk n s)(c:s.steps≠ []):oy (s.steps.map (·.2)):=by
 refine{by rw[WC];calc h.bj,λw b=>?_,?_};let(p,a,e):=WT.mp b;rw[<-e];calc(h.steps p a).2;rcases h.iR with e|⟨p,a,e⟩;nofun;grind
def oz(h:NodeOk n s)(a:s.steps≠ []):∃(k:Rat)(q:Frac->Int),0<k/\gJ (s.steps.map (·.2))=s.steps.map (λp=>q p.2)/\ft s.steps=s.steps.map (λp=>(p.1,q p.2))/\∀p∈s.steps,((q p.2))=k*val p.2/\0<=q p.2/\q p.2<=10^81:=by
 let(k,k0,k1,k2):=ww (qQ h a);refine{k,λw=>w.num*((b' (s.steps.map (·.2))/w.den))/(gcdAll (c5 (s.steps.map (·.2)))),k0,?_,?_,λp b=>k2 p.2 (WT.mpr ⟨p,b,rfl⟩)};nofun;unfold ft;grind
def iU p r:bO (p::r)=p.2+bO r:=rfl
theorem oA:∀r,(∀p∈r,0<=p.2)->bO (r.filter λp=>decide (0<p.2))=bO r/\∀j,bq (r.filter λp=>decide (0<p.2)) j=bq r j
 |[],_=>{rfl,λ_=>rfl}|p::r,h=>by
  let(eJ,bp):=oA r λq a=>h q (WE _ a);have b:=h p (WD ..);by_cases e:0<p.2;rw[XF (by nofun),iU,eJ];exact{rfl,λj=>by erw[gI,gI,bp]};rw[XT (by nofun),iU,eJ];refine{by lia,λj=>?_};rw[gI,bp]<;>lia
theorem qR:∀r B,(∀p∈r,p.2<=B)->bO r<=r.length*B
 |[],B,_=>by show(0:Int)<=0*B;nofun|p::r,B,h=>by
  have:=qR r B λq a=>h q (WE _ a);have b:=h p (WD ..);erw[iU,WL];push_cast;rw[Int.add_mul];lia
def wsum(c:Chain)(i:Nat):Rat:=a3 (c.node i).steps λs=>val s.2
def j8(a:(c.node i).steps=[])j:chance c i j=if i=j then Frac.one else Frac.zero:=by unfold chance isEnd;rw[a];rfl
def qS(a:(c.node i).steps≠ [])j:chance c i j=match(c.node i).steps.find? (λs=>s.1==j)with|some s=>s.2.div (Frac.sum ((c.node i).steps.map λs=>s.2))|none=>Frac.zero:=by
 unfold chance isEnd;(nofun;lia)
def oB(i j):aU (chance c i j):=by by_cases a:(c.node i).steps=[];rw[j8 a];split;calc e_;calc dp;rw[qS a];split;calc la _ _;calc dp
def wx(hc:aY c)(af:i<c.size):val (Frac.sum ((c.node i).steps.map λs=>s.2))=wsum c i:=by
 rw[wt _ λf a=>?_,gH];rfl;let(p,a8,e):=WT.mp a;rw[<-e];calc iT ((gK hc af).steps p a8).2.1
def wy(h:aU f)(a:0<=f.num):0<=val f:= Xf (Yt.mpr a) (XJ (Y9.mpr (cast_pos h.pos)))
def wz(hc:aY c)(af:i<c.size)(d:(c.node i).steps≠ []):0<wsum c i:=by
 have ok:=gK hc af;have b:=λp a=>wy (iT (ok.steps p a).2.1) (ok.steps p a).2.2;rcases ok.iR with e|⟨p,a,e⟩;nofun;have ae:=ou b p a;have f:=λz=>e ((gf (iT (ok.steps p a).2.1)).mpr z);unfold wsum;grind
theorem qT:∀{l:List α}{f:α->Rat},(∀x∈l,f x=0)->a3 l f=0|[],_,_=>rfl|x::r,f,h=>by erw[dE,qT λi af=>h i (WE _ af)];grind
theorem qU j:∀(l:List (Nat×Frac)),(l.map (·.1)).Nodup->(match l.find? (λs=>s.1==j)with|some s=>val s.2|none=>0)=a3 l λs=>if s.1=j then val s.2 else 0|[],_=>rfl|x::r,a=>by rw[WU,W3]at a;erw[dE];by_cases e:x.1=j;rw[ZU (by nofun),qT λp b=>?_];grind;grind;rw[Zh (by nofun),qU j r a.2];grind
def wA(hc:aY c)(af:i<c.size)(b:(c.node i).steps≠ [])j:ar c i j=a3 (c.node i).steps (λs=>if s.1=j then val s.2 else 0)/wsum c i:=by
 have ok:=gK hc af;unfold ar;simp only[qS b,<-qU j _ ok.nodup];cases a:(c.node i).steps.find? (λs=>s.1==j)with|none=>rw[val_zero];grind|some s=>
  simp only[jZ (iT (ok.steps s (YF a)).2.1) (mq _ λf a=>by
   let(p,a8,e):=WT.mp a;rw[<-e];calc iT (ok.steps p a8).2.1),wx hc af]
theorem j9 j:∀r,((bq r j))=a3 r λp=>if p.1=j then(p.2:Rat)else 0|[]=>rfl|p::r=>by erw[gI,X_,j9 j r,dE];split;rfl;rfl
def du  (hc:aY c)  (af:i<c.size):Row c.size (ar c i) (rowOf c i):=by
 have ok:=gK hc af;unfold rowOf;by_cases b:(c.node i).steps=[]
 .rw[WO b];refine{λp a=>by rw[WQ.mp a];calc af,λp a=>by rw[WQ.mp a];show(0:Int)<1;decide,by simp,by show(0:Int)<1+0;decide,by show(1+0)<2^273;decide,λj=>?_};rw[j9];show(if i=j then(1) else 0)+0=(1)*ar c i j;unfold ar;rw[j8 b];by_cases e:i=j
  .rw[WO e,WO e,val_one];grind
  rw[WM e,WM e,val_zero];grind
 rw[WM b];let(k,q,k0,_,k1,k2):=oz ok b;have d:∀p∈ft (c.node i).steps,0<=p.2:=λp a=>by grind
 let(f1,f2):=oA _ d;have ea:((bO (ft (c.node i).steps)))=k*wsum c i:=by erw[ov,k1,gH];unfold wsum;rw[<-mO];exact ot λs hs=>(k2 s hs).1
 have f:=wz hc af b;refine{λp a=>?_,λp a=>?_,?_,?_,?_,λj=>?_}
 .have a:=(WY.mp a).1;rw[k1]at a;let(s,hs,e):=WT.mp a;rw[<-e];exact(ok.steps s hs).1
 .grind
 .have:((ft (c.node i).steps).map (·.1)).Nodup:=by
   erw[k1,Xg];exact ok.nodup
  grind
 .rw[f1];have:0<((bO (ft (c.node i).steps)):Rat):=by
   rw[ea];exact XR k0 f
  exact W7.mp this
 .rw[f1];have ae:=qR (ft (c.node i).steps) (10^81) λp a=>by
   grind
  have ag:((c.node i).steps.length)<=8:=by have:=ok.bj;omega
  grind
 rw[f1,f2,j9,k1,gH,wA hc af b];have g:a3 (c.node i).steps (λs=>if s.1=j then((q s.2)) else 0)=k*a3 (c.node i).steps (λs=>if s.1=j then val s.2 else 0):=by rw[<-mO];exact ot λs hs=>by (split<;>grind)
 grind
def cJ(hc:aY c):ba c:=by
 refine{{λi j=>?_,λi af=>?_,λi j af f=>?_},λi j=>oB i j,λi af a=>?_};by_cases a:(c.node i).steps=[];unfold ar;rw[j8 a];split;rw[val_one];rfl;rw[val_zero];grind;have af:i<c.size:=by apply WR;intro af;apply a;unfold Chain.node;rw[Zn (by have:c.size=c.states.length:=rfl;nofun)];rfl
 have R:=du hc af;have ae:=R.is j;have ag:=W7.mpr R.dN;have d:0<=(bq (rowOf c i) j:Rat):=by rw[j9];exact mP λp b=>by split;calc XJ (W7.mpr (R.pos p b));grind
 apply WR;intro hz;have:=XR ag (show 0< -(ar c i j)by grind);grind;have R:=du hc af;have ag:=W7.mpr R.dN;have ae:=mQ (λ_=>1) (rowOf c i) R.lt;have g:a3 (rowOf c i) (λp=>p.2*1)=(bO (rowOf c i)):=by rw[ov];simp
 have h:aq (List.range c.size) (λj=>(bq (rowOf c i) j)*1)=(bO (rowOf c i))*aq (List.range c.size) (ar c i):=by rw[<-cn];exact br λj _=>by rw[R.is j];simp
 have d:=ql ag (x:=aq (List.range c.size) (ar c i)-1) (by grind);grind;have R:=du hc af;have ag:=R.is j;rw[jp λz=>by
  let(p,b,e):=WT.mp z;have:=R.lt p b;lia,Xo]at ag
 have d:=W7.mpr R.dN;grind;have a:(c.node i).steps=[]:=by simpa[isEnd]using a
 unfold ar;rw[j8 a,WO rfl,val_one]
def bh(L:List Nat)(a:aX)(i j:Nat):Int:=(ds L a*els L a i j).num
def bY(L:List Nat)(a:aX):Int:=(ds L a).num
structure fu(G:List Nat->aX->Prop)(U:List Nat)(R:Nat)(A:Nat->Nat->Int)(a:aX):Prop where
 elim:da G
 good:G U a
 cast:∀i j,a i j=A i j
 bj:U.length<=24
 out:R∉U
 dO:∀i∈U,∀s∈U,(A i s).natAbs<=2^273
 Au:∀i∈U,(A i R).natAbs<=2^1100
variable {G:List Nat->aX->Prop}{U:List Nat}{R:Nat}{A:Nat->Nat->Int}{a:aX}
theorem ii(c:da G):∀(L2 b),G (b++L2) a->G b a|[],b,h=>by rwa[XC]at h|p::L2,b,h=>by have d:=c.nodup h;rw[Yr]at d;have e:=λz=>d.2.2 p z p (WD ..) rfl;have:=c.sub h (WZ _ (WD ..));rw[aaT _ e,Xh]at this;calc ii c L2 b this
def th:∀k,k<=25->dL k<=2^84:=by decide
def mR(h:k<=24):(2^273)^k<=(2^6552):=by rw[<-ZX];calc XX (by decide) (by lia)
def mS{q:Rat}{z:Int}(h:q=z):q.num=z:=by nofun
def gj(h:fu G U R A a)(d:G L a)(hs:∀s∈L,s∈U):((bY L a))=ds L a/\(bY L a).natAbs<2^6640/\0<bY L a:=by
 have c:=W1 (eA L U (h.elim.nodup d) hs) h.bj;let(z0,_):=mn h.elim A a h.cast (2^273) (λs=>s∈U) L.length L rfl d hs λi s af f=>h.dO i af s (hs s f);let(z,e,b):=z0;have j:bY L a=z:=mS e;have g:=mi h.elim L a d;rw[e]at g;rw[j];refine{e.symm,?_,W7.mp g};refine Xn b ?_;refine Xn (X3 (th _ (by lia)) (mR c)) ?_;simp
def fc(h:fu G U R A a)(f:G L a)(hs:∀s∈L,s∈U)(af:i∈U)(a':j∈U\/j=R):((bh L a i j))=ds L a*els L a i j/\(bh L a i j).natAbs<2^8000:=by
 have c:=W1 (eA L U (h.elim.nodup f) hs) h.bj;let(_,w):=mn h.elim A a h.cast (2^273) (λs=>s∈U) L.length L rfl f hs λi s af d=>h.dO i af s (hs s d);let(z,e,b):=w i j (2^1100) af λk ak=>by
  rcases a' with a'|a';calc W1 (h.dO k ak j a') (XX (by decide) (by decide));rw[a'];exact h.Au k ak
 have g:bh L a i j=z:=mS e;rw[g];refine{e.symm,Xn b ?_};refine Xn (XH _ (X3 (th _ (by nofun)) (mR c))) ?_;simp
def Av(h:fu G U R A a)(i j):bh [] a i j=A i j:=by refine mS ?_;show 1*a i j=_;rw[h.cast];simp
def oC{x y:Int}(h:(x:Rat)=y):x=y:=ZK.mp h
def oD(h:fu G U R A a)(d:U=b++p::L2):bY (b++[p]) a=bh b a p p/\∀i∈L2,∀j,(j∈U\/j=R)->(bh b a p p*bh b a i j-bh b a i p*bh b a p j)/bY b a=bh (b++[p]) a i j:=by
 have m:=h.good;rw[d]at m;have c:=ii h.elim _ _ m;have g:G (b++[p]) a:=by refine ii h.elim L2 (b++[p]) ?_;nofun
 have cA:∀s∈b,s∈U:=λs hs=>by rw[d];exact Xa _ hs
 have f:p∈U:=by rw[d];exact WZ _ (WD ..)
 have dc:∀s∈b++[p],s∈U:=λs hs=>by grind
 let(fK,eW,Aw):=gj h c cA;let(IC,UN,UO):=gj h g dc;have pp:=(fc h c cA f (.inl f)).1;refine{oC ?_,λi af j k=>?_};erw[IC,jj,pp];have l:i∈U:=by rw[d];exact WZ _ (WE _ af)
 have e:bh b a p p*bh b a i j-bh b a i p*bh b a p j=bY b a*bh (b++[p]) a i j:=by
  apply oC;erw[Yj,W6,W6,W6,(fc h c cA l k).1,(fc h c cA l (.inl f)).1,(fc h c cA f k).1,(fc h g dc l k).1,jj,pY];have:els b a p p≠0:=by
   intro n;have:ds (b++[p]) a=0:=by erw[jj,n];simp
   have:=mi h.elim _ a g;nofun
  unfold aL;grind
 rw[e,Xx _ (by lia)]
theorem qV(c:da G){z:Nat->Rat}:∀b a,G (b++L2) a->(∀i∈b++L2,aq (b++L2) (λt=>a i t*z t)=a i R)->∀i∈L2,aq L2 (λt=>els b a i t*z t)=els b a i R
 |[],a,_,hz,i,af=>hz i af|p::b,a,h,hz,i,af=>by
  have g:=c.aL h (WD ..);rw[YN,Xh]at g;have d:=c.pos h (WD ..);refine qV c b (aL p a) g (λk ak=>?_) i af;have e:aq (b++L2) (λt=>aL p a k t*z t)=aq (b++L2) (λt=>a k t*z t)-a k p/a p p*aq (b++L2) (λt=>a p t*z t):=by rw[<-cn,<-dm];exact br λt _=>by unfold aL;grind
  have ae:=hz p (WD ..);have ag:=hz k (WE _ ak);simp only[YN,bu]at ae ag;rw[e];unfold aL;grind
def cW(U:List Nat)(R:Nat)(a:aX)(s:Nat):Int:=bh (U.erase s) a s R
def jq(h:fu G U R A a)(hs:s∈U){z:Nat->Rat}(hz:∀i∈U,aq U (λt=>a i t*z t)=a i R):((cW U R a s))=bY U a*z s/\(cW U R a s).natAbs<2^8000:=by
 let(e,b):=fc h (h.elim.sub h.good hs) (λt c=>XI c) hs (.inr rfl);refine{?_,b};rwa[(gj h h.good λ_ hs=>hs).1,zX h.elim h.good hz hs]
def Ax(h:fu G U R A a)(c:U=b++p::L2):(bY U a*bh b a p R-bV (L2.map λj=>bh b a p j*cW U R a j))/bh b a p p=cW U R a p:=by
 let(z,hz):=h5 h.elim U a h.good R;have f:=h.good;rw[c]at f;have g:=ii h.elim _ _ f;have cA:∀s∈b,s∈U:=λs hs=>by rw[c];exact Xa _ hs
 have d:p∈U:=by rw[c];exact WZ _ (WD ..)
 have dc:∀s∈L2,s∈U:=λs hs=>by rw[c];exact WZ _ (WE _ hs)
 have pp:=(fc h g cA d (.inl d)).1;have i:bh b a p p≠0:=by
  have n:G (b++[p]) a:=by refine ii h.elim L2 (b++[p]) ?_;nofun
  have:=(gj h n λs hs=>by
   rcases Xc.mp hs with hs|hs;nofun;rwa[WQ.mp hs]).2.2
  rw[(oD h c).1]at this;lia
 have e:bY U a*bh b a p R-bV (L2.map λj=>bh b a p j*cW U R a j)=bh b a p p*cW U R a p:=by
  apply oC;have k:=qV h.elim b a f (by rwa[<-c]) p (WD ..);erw[bu]at k;have ay:((bV (L2.map λj=>bh b a p j*cW U R a j)))=ds b a*bY U a*aq L2 (λt=>els b a p t*z t):=by
   have gen:∀l,(∀s∈l,s∈U)->((bV (l.map λj=>bh b a p j*cW U R a j)))=ds b a*bY U a*aq l (λt=>els b a p t*z t):=by
    intro l;induction l with|nil=>intro _;show(0)=_*0;simp|cons x r o=>intro m;show((bh b a p x*cW U R a x+bV (r.map _):Int):Rat)=_;erw[X_,W6,(fc h g cA d (.inl (m x (WD ..)))).1,(jq h (m x (WD ..)) hz).1,bu];grind
   grind
  erw[Yj,W6,W6,(fc h g cA d (.inr rfl)).1,(jq h d hz).1];grind
 rw[e,Xx _ i]
theorem mT c:∀k l,sharesAfter c (k+1) l=stepped c (sharesAfter c k l)|0,l=>rfl|k+1,l=>by show sharesAfter c (k+1) (stepped c l)=_;rw[mT c k];rfl
def shr(c:Chain)(i k j:Nat):Rat:=val ((sharesAfter c k (at_ c i))[j]?.getD Frac.zero)
def oE c i:∀k,(sharesAfter c k (at_ c i)).length=c.size/\∀f∈sharesAfter c k (at_ c i),aU f
 |0=>{by show(List.map _ (List.range _)).length=_;rw[WC,W0],λf a=>by
   let(j,_,e):=WT.mp a;rw[<-e];split
   .exact e_
   calc dp}|k+1=>by
  rw[mT];refine{by show(List.map _ (List.range _)).length=_;rw[WC,W0],λf a=>?_};let(j,_,e):=WT.mp a;rw[<-e];refine mq _ λg b=>?_;let(q,_,e):=WT.mp b;rw[<-e];calc hD _ _
def wB c(i k j:Nat):aU ((sharesAfter c k (at_ c i))[j]?.getD Frac.zero):=by
 cases h:(sharesAfter c k (at_ c i))[j]? with|none=>calc dp|some f=>calc(oE c i k).2 f (WS h)
def fv(h:j<n):(List.range n)[j]? =some j:=by nofun
def j_ c i(a:j<c.size):shr c i 0 j=if j=i then 1 else 0:=by show val (((List.range c.size).map λj=>if j=i then Frac.one else Frac.zero)[j]?.getD Frac.zero)=_;rw[WG,fv a];show val (if j=i then Frac.one else Frac.zero)=_;split;calc val_one;calc val_zero
def mU c(i k)(a:j<c.size):shr c i (k+1) j=aq (List.range c.size) (λq=>shr c i k q*ar c q j):=by unfold shr;rw[mT];show val (((List.range c.size).map λj=>Frac.sum ((numbers c).map λq=>((sharesAfter c k (at_ c i))[q]?.getD Frac.zero).mul (chance c q j)))[j]?.getD Frac.zero)=_;erw[WG,fv a];show val (Frac.sum ((List.range c.size).map λq=>((sharesAfter c k (at_ c i))[q]?.getD Frac.zero).mul (chance c q j)))=_;rw[p7 _ _ λq _=>hD _ _];calc br λq _=>val_mul (wB c i k q) (oB q j)
def wC n f:((bV ((List.range n).map f)))=aq (List.range n) (λi=>(f i)):=by
 erw[j5,gH];generalize List.range n=l;induction l with|nil=>rfl|cons x r a=>erw[dE,bu,a]
def aM(c:Chain)(i:Nat):Int:=bO (rowOf c i)
def dO(c:Chain)(tops:Nat->Int):List Nat->Nat->Nat|[],f=>f|i::r,f=>dO c tops r (Nat.lcm f ((aM c i).natAbs/Nat.gcd (tops i).natAbs (aM c i).natAbs))
def hH(c:Chain):List Nat->Nat->Nat|[],b=>b|i::r,b=>hH c r (Nat.lcm b (aM c i).natAbs)
theorem oF:∀l(f b),(∀i∈l,0<aM c i)->0<f->0<b->f∣b->0<dO c tops l f/\f∣dO c tops l f/\(∀i∈l,aM c i∣tops i*(dO c tops l f))/\dO c tops l f∣hH c l b/\0<hH c l b
 |[],f,b,_,a,d,hd=>{a,Yf f,λi af=>(by nofun),hd,d}|i::r,f,b,h,a,d,hd=>by
  have g:0<(aM c i).natAbs:=by nofun;lia
  have j:Nat.gcd (tops i).natAbs (aM c i).natAbs∣(aM c i).natAbs:=X4 ..;have m:=Y' (X8 g j) (XY _ g);let(eJ,bp,ow,ox,ID):=oF (tops:=tops) r (Nat.lcm f ((aM c i).natAbs/Nat.gcd (tops i).natAbs (aM c i).natAbs)) (Nat.lcm b (aM c i).natAbs) (λk ak=>h k (WE _ ak)) (ZE a m) (ZE d g)
   (Nat.lcm_dvd (X1 hd (Zf ..)) (X1 (YX j) (Y2 ..)))
  refine{eJ,X1 (Zf ..) bp,λk ak=>?_,ox,ID};rcases WW.mp ak with e|ak;rw[e];have cB:(aM c i).natAbs/Nat.gcd (tops i).natAbs (aM c i).natAbs∣dO c tops (i::r) f:=X1 (Y2 ..) bp;have bX:(aM c i).natAbs∣(tops i).natAbs*dO c tops (i::r) f:=by
   let(x,aB):=XN (tops i).natAbs (aM c i).natAbs;let(y,aN):=cB;refine{x*y,?_};have o:(aM c i).natAbs/Nat.gcd (tops i).natAbs (aM c i).natAbs*Nat.gcd (tops i).natAbs (aM c i).natAbs=(aM c i).natAbs:=Nat.div_mul_cancel (X4 ..);grind
  have n:=Zo.mp (show(aM c i).natAbs∣(tops i*(dO c tops (i::r) f)).natAbs by rwa[XW,W8]);calc n;calc ow k ak
theorem qW:∀l b,(∀i∈l,0<aM c i/\aM c i<2^273)->0<b->hH c l b<=b*(2^273)^l.length
 |[],b,_,_=>by show b<=b*1;nofun|i::r,b,h,d=>by
  have e:0<(aM c i).natAbs:=by nofun;omega
  have a:(aM c i).natAbs<=2^273:=by nofun;omega
  refine W1 (qW r _ (λk ak=>h k (WE _ ak)) (ZE d e)) ?_;have ae:=W1 (X8 (YM d e) (aao ..)) (Zc b a);calc Nat.lcm b (aM c i).natAbs*(2^273)^r.length<=b*2^273*(2^273)^r.length:=XH _ ae
   _=b*((2^273)^r.length*2^273):=by grind
def eK(c:Chain)(tops:Nat->Int):Nat:=dO c tops (List.range c.size) 1
def base(c:Chain):Nat:=hH c (List.range c.size) 1
def moved(c:Chain)(tops:Nat->Int)(j:Nat):Int:=bV ((List.range c.size).map λi=>tops i*(eK c tops)/aM c i*bq (rowOf c i) j)
structure jr(c:Chain)(i k:Nat)(tops:Nat->Int)(oG:Nat):Prop where
 pos:0<oG
 nonneg:∀j,j<c.size->0<=tops j
 is:∀j,j<c.size->(tops j:Rat)=((oG:Int):Rat)*shr c i k j
 dvd:oG∣base c^k
def e0(hc:aY c)(af:i<c.size):0<aM c i/\aM c i<2^273:={(du hc af).dN,(du hc af).small}
def ti(hc:aY c)tops:0<eK c tops/\(∀i,i<c.size->aM c i∣tops i*(eK c tops))/\eK c tops∣base c/\0<base c:=by
 let(a,_,b,d,e):=oF (tops:=tops) (List.range c.size) 1 1 (λi af=>(e0 hc (WN.mp af)).1) (by lia) (by lia) (Yf 1);calc{a,λi af=>b i (WN.mpr af),d,e}
theorem j':∀l,(∀x∈l,0<=x)->0<=bV l|[],_=>by show(0:Int)<=0;nofun|x::r,h=>by have ae:=h x (WD ..);have ag:=j' r λy a=>h y (WE _ a);show 0<=x+bV r;lia
def mV(h:Row n P r)j:0<=bq r j:=by
 refine j' _ λx a=>?_;let(p,a8,e):=WT.mp a;have:=h.pos p (WY.mp a8).1;lia
def Ay{c:Chain}i:jr c i 0 (λj=>if j=i then 1 else 0) 1:=by
 refine{by lia,λj _=>by split<;>nofun,λj a=>?_,Yf 1};rw[j_ c i a];by_cases e:j=i;nofun;nofun
def Az(hc:aY c){a:Nat}(h:jr c i k tops a):jr c i (k+1) (moved c tops) (a*eK c tops):=by
 let(f1,f2,qX,f4):=ti hc tops;refine{YM h.pos f1,λj _=>?_,λj d=>?_,?_};refine j' _ λx f=>?_;let(q,b,e):=WT.mp f;have b:=WN.mp b;rw[<-e];calc YH (ZN (YH (h.nonneg q b) (by nofun)) (Zp (e0 hc b).1)) (mV (du hc b) j);unfold moved;rw[wC,mU c i k d,<-cn];refine br λq b=>?_;have b:=WN.mp b;let(w,hw):=f2 q b;have g:=(e0 hc b).1;rw[hw,Xx _ (by lia),W6,(du hc b).is j];have l:(aM c q)*w=((a:Int))*shr c i k q*((eK c tops:Int)):=by rw[<-W6,<-hw,W6,h.is q b]
 have m:((bO (rowOf c q)))=(aM c q):=rfl;grind;erw[ZI];calc Nat.mul_dvd_mul h.dvd qX
def IE(hc:aY c):base c<=2^6552:=by refine W1 (qW _ 1 (λi af=>e0 hc (WN.mp af)) (by lia)) ?_;rw[W0,ZW];calc mR hc.bj
theorem qY(hc:aY c)i:∀k{j:Nat},j<c.size->0<=shr c i k j|0,j,a=>by rw[j_ c i a]<;>grind|k+1,j,a=>by rw[mU c i k a];calc gC λq b=>Xf (qY hc i k (WN.mp b)) ((cJ hc).bc.nonneg q j)
theorem qZ(hc:aY c)(af:i<c.size):∀k,aq (List.range c.size) (λj=>shr c i k j)=1|0=>by rw[gE (nodup_range _) (WN.mpr af) λj a h=>by rw[j_ c i (WN.mp a),WM h],j_ c i af,WO rfl]|k+1=>by rw[br λj a=>mU c i k (WN.mp a),mC];simp only[<-qZ hc af k];refine br λq b=>?_;rw[cn,(cJ hc).bc.sum q (WN.mp b)];simp
def wD(hc:aY c)(af:i<c.size)k(a:j<c.size):shr c i k j<=1:=by rw[<-qZ hc af k];calc hB (λq b=>qY hc i k (WN.mp b)) j (WN.mpr a)
def AA(hc:aY c)(af:i<c.size){a:Nat}(h:jr c i k tops a)(b:j<c.size):tops j<=a:=by
 have ae:=h.is j b;have ag:=wD hc af k b;have d:=cast_pos h.pos;have e:(tops j)<=((a:Int):Rat):=by have:=Xf (XJ d) (show 0<=1-shr c i k j by grind);grind
 calc YT.mp e
def IF(hc:aY c){a:Nat}(h:jr c i k tops a)(ak:k<=100):a<=2^655200:=by have b:=(ti hc tops).2.2.2;refine W1 (X8 (abV b) h.dvd) ?_;refine W1 (Nat.pow_le_pow_left (IE hc) k) ?_;rw[<-ZX];calc XX (by decide) (by lia)
end mf

namespace L2
open PySem PySem.Spec PyProof.Rows
abbrev Key:=Sum Int Str
def oH:Key->Value->Bool|.inl k,v=>Value.isInt k v|.inr x,v=>Value.isStrOf x v
def IG(w:World):Key->Int|.inl k=>hashInt k|.inr x=>hashStr w x
def ka:∀{k:Key}{v:Value},oH k v=true->(∃i t,k=Sum.inl i/\v=Value.int i t)\/(∃x t,k=Sum.inr x/\v=Value.str x t)|.inl i,v,h=>by let(t,e):=Value.isInt_shape h;calc .inl ⟨i,t,rfl,e⟩|.inr x,v,h=>by let(t,e):=Value.isStrOf_shape h;calc .inr ⟨x,t,rfl,e⟩
def IH i t:oH (.inl i) (.int i t)=true:=by simp[oH,Value.isInt]
def II x t:oH (.inr x) (.str x t)=true:=by simp[oH,Value.isStrOf]
def IJ(a b):decide ((Sum.inl a:Key)=Sum.inl b)=(a==b):=by grind
def IK(a b):decide ((Sum.inr a:Key)=Sum.inr b)=decide (a=b):=by simp
def IL a b:decide ((Sum.inl a:Key)=Sum.inr b)=false:=Xl λq=>nomatch q
def IM a b:decide ((Sum.inr a:Key)=Sum.inl b)=false:=Xl λq=>nomatch q
def gL prog w:PySem.KeyKind prog w Key where
 is:=oH;hash:=IG w;inj:=λv a b g f=>by
  rcases ka g with⟨i,t,rfl,rfl⟩|⟨x,t,rfl,rfl⟩;rcases ka f with⟨j,u,rfl,e⟩|⟨y,u,rfl,e⟩;injection e with c _;rw[c];calc nomatch e;rcases ka f with⟨j,u,rfl,e⟩|⟨y,u,rfl,e⟩;calc nomatch e;injection e with c _;rw[c]
 byValue:=λk v h=>by rcases ka h with⟨i,t,rfl,rfl⟩|⟨x,t,rfl,rfl⟩<;>rfl
 pyHash:=λd h=>by
  rcases ka d with⟨i,t,rfl,rfl⟩|⟨x,t,rfl,rfl⟩;calc wpAny_pyHash_int h;exact wpAny_pyHash_str h
 eqBool:=λl d h=>by
  rcases ka l with⟨i,t,rfl,rfl⟩|⟨x,t,rfl,rfl⟩;rcases ka d with⟨j,u,rfl,rfl⟩|⟨y,u,rfl,rfl⟩;rw[IJ]at h;calc wpAny_eqBool_int h;calc SeqAt.EqAt.int_str i t y u _ _ _ _ h;rcases ka d with⟨j,u,rfl,rfl⟩|⟨y,u,rfl,rfl⟩;calc SeqAt.EqAt.str_int x t j u _ _ _ _ h;rw[IK]at h;exact wpAny_eqBool_str h
 «strs»:=λk x t v h=>by
  rcases ka h with⟨i,u,rfl,e⟩|⟨y,u,rfl,e⟩;calc nomatch e;injection e with c _;subst c;cases v<;>rfl
def IN prog w i t:(gL prog w).is (.inl i) (.int i t)=true:=IH i t
def IP prog w x t:(gL prog w).is (.inr x) (.str x t)=true:=II x t
inductive V where
 |bb|aG (b:Bool)|int (i:Int)|str (x:Str)|fX (b:Array UInt8)|q0 (b:UInt64)|ref (a:Addr)|ty (n:String)
 deriving DecidableEq
def RelV:V->Value->Prop|.bb,u=>u=Value.none|.aG b,u=>u=Value.bool b|.int i,u=>∃t,u=Value.int i t|.str x,u=>∃t,u=Value.str x t|.fX b,u=>∃t,u=Value.bytes b t|.q0 b,u=>∃t,u=Value.float b t|.ref a,u=>u=Value.ref a|.ty n,u=>u=Value.type n
abbrev a0:List V->List Value->Prop:=Paired RelV
def a0.length(r:a0 xs us):xs.length=us.length:=Paired.length r
theorem a0.get:∀{xs:List V}{us:List Value}{i:Nat}{x:V},a0 xs us->xs[i]? =some x->∃u,us[i]? =some u/\RelV x u
 |_,_,_,_,.nil,e=>by simp at e
 |_,_,0,_,.cons r _,e=>by simp at e;subst e;calc{_,rfl,r}
 |_,_,i+1,x,.cons _ t,e=>by let(u,ae,ag):=a0.get (i:=i) (x:=x) t (by nofun);exact{u,by nofun,ag}
theorem a0.set(r:RelV x u):∀{xs:List V}{us:List Value}i,a0 xs us->a0 (xs.set i x) (us.set i u)|_,_,_,.nil=>.nil|_,_,0,.cons _ t=>.cons r t|_,_,i+1,.cons q t=>.cons q (a0.set r i t)
theorem a0.append:∀{xs ys:List V}{us a:List Value},a0 xs us->a0 ys a->a0 (xs++ys) (us++a)|_,_,_,_,.nil,s=>s|_,_,_,_,.cons r t,s=>.cons r (a0.append t s)
theorem a0.take:∀{xs:List V}{us:List Value}n,a0 xs us->a0 (xs.take n) (us.take n)|_,_,0,_=>.nil|_,_,_+1,.nil=>.nil|_,_,n+1,.cons r t=>.cons r (a0.take n t)
theorem a0.drop:∀{xs:List V}{us:List Value}n,a0 xs us->a0 (xs.drop n) (us.drop n)|_,_,0,r=>r|_,_,_+1,.nil=>.nil|_,_,n+1,.cons _ t=>a0.drop n t
def eb:Option V->Option Value->Prop|some v,some u=>RelV v u|none,none=>True|_,_=>False
def de:List (bS×V)->List (bS×Value)->Prop:=Paired λp q=>p.1=q.1/\RelV p.2 q.2
def cb:Key->V|.inl i=>.int i|.inr x=>.str x
inductive bH where
 |lst (xs:List V)
 |tup (xs:List V)
 |b7 (kvs:List (Key×V))|d6 (kvs:List (List Key×V))
 |set (S:Int->Bool) (n:Nat)
 |ins (C ao:Addr) (fs:List (Str×V))
 |own (x:Addr)
 |g8 (fs:List (Str×V))
 |met (f x:Addr)
 |tj (lo af:Int)
 |e1 (o:Obj) (u:bH)
 |lz (ps:Array Value)
 |ext (UP:Heap->Prop)
abbrev am:=Addr->Option bH
def upd(H:am)(a:Addr)(o:bH):am:=λb=>if b=a then some o else H b
def aO:upd H a o a=some o:=by unfold upd;rw[WO rfl]
def aK(h:b≠a):upd H a o b=H b:=by unfold upd;rw[WM h]
def gk:upd (upd H a o) a u=upd H a u:=by funext b;unfold upd;split<;>rfl
def IQ{H:am}(h:H a=some o)(h':H b=some u)(d:o≠u):a≠b:=by lia
def cT{H:am}(h:H a=some o)(h':H b=none):a≠b:=by lia
section
variable (P:Program) (w:World)
def cX(H:am)(h:Heap)(a:Addr):bH->Prop
 |.lst xs=>xs.length<=sizeLine/\∃(its:List Value)(n:Nat),a0 xs its/\h.get? a=some {cls:=.type "list",data:=.seq its.toArray n}
 |.tup xs=>xs.length<=sizeLine/\∃its:List Value,a0 xs its/\IsTup h a its.toArray
 |.b7 kvs=>kvs.length<=sizeLine/\(a==sysModules)=false/\∃vs,de kvs vs/\h.DictOf (gL P w) a vs
 |.d6 kvs=>kvs.length<=sizeLine/\(a==sysModules)=false/\∃xs:List (List Key×Addr×Value),
   Paired (λ(p:List Key×V)(q:List Key×Addr×Value)=>p.1=q.1/\H q.2.1=some (.tup (p.1.map cb))/\RelV p.2 q.2.2) kvs xs/\
   ∃o ay c,h.get? a=some o/\o.ExactDict/\o.data=.dict ay c/\ay.toList=xs.map (entryOfKey (tupleKind (gL P w)))/\(xs.map (·.1)).Nodup
 |.set S n=>h.SetOf (intKind P w) a S n
 |.ins C ao fs=>H ao=some (.own a)/\fs.length<=1000/\ao≠a/\h.get? a=some (instObj C ao)/\
   ∃cC,h.Ns1 ao cC/\(∀f,eb (fs.lookup f) (cC f))/\PySem.Within cC (fs.map (·.1))
 |.own _=>∃o,h.get? a=some o
 |.g8 fs=>∃cC,h.Ns1 a cC/\∀f,eb (fs.lookup f) (cC f)
 |.tj lo af=>∃t u v,h.get? a=some {cls:=.type "range",data:=.fields #[.int lo t,.int af u,.int 1 v]}
 |.e1 o u=>h.get? a=some o/\cX H h a u
 |.lz ps=>h.get? a=some {cls:=.none,data:=.fields ps}
 |.met f x=>h.get? a=some (methodObj (.ref f) (.ref x))
 |.ext b=>b h/\(∃o,h.get? a=some o)/\∀ae ag:Heap,b ae->(∀o,ae.get? a=some o->ag.get? a=some o)->b ag
def cu(H:am)(h:Heap):Prop:=∀a o,H a=some o->cX P w H h a o
end
section
variable {P:Program}{w:World}{H aj:am}{h h':Heap}{a:Addr}{o:bH}
def cX.lt(x:cX P w H h a o):a<h.objs.size:=by
 cases o with|lst xs=>let(_,_,_,_,e):=x;calc W' e|tup xs=>let(_,_,_,p):=x;calc p.lt|b7 kvs=>let(_,_,_,_,o,_,_,e,_):=x;calc W' e|d6 kvs=>let(_,_,_,_,o,_,_,e,_):=x;calc W' e|set S n=>let(o,_,_,_,e,_):=x;calc W' e|ins C ao fs=>let(_,_,_,e,_):=x;calc W' e|own y=>let(_,e):=x;calc W' e|g8 fs=>let(_,z,_):=x;let(_,_,_,e,_):=z;calc W' e|tj lo af=>let(_,_,_,e):=x;calc W' e|e1 b u=>let(e,_):=x;calc W' e|lz ps=>calc W' (show h.get? a=some _ from x)|met f y=>calc W' (show h.get? a=some _ from x)|ext c=>let(_,z0,_):=x;let(_,e):=z0;calc W' e
theorem Paired.mapP:∀{c:List α}{d:List e},Paired F c d->(∀a b,F a b->G a b)->Paired G c d|_,_,.nil,_=>.nil|_,_,.cons r t,f=>.cons (f _ _ r) (Paired.mapP t f)
def cX.ij(x:cX P w H h a o)(k:∀b u,(b=a\/H b=some (.own a))->h.get? b=some u->h'.get? b=some u)
  (j:∀b,H b=some (.own a)->aj b=some (.own a)) (l:∀b xs,H b=some (.tup xs)->aj b=some (.tup xs)):cX P w aj h' a o:=by
 induction o with|lst xs=>let(z,its,n,r,e):=x;calc{z,its,n,r,k _ _ (.inl rfl) e}|tup xs=>let(z,its,r,g,e,c):=x;calc{z,its,r,g,k _ _ (.inl rfl) e,c}|b7 kvs=>let(z,y,vs,r,g,ay,i,e,c):=x;calc{z,y,vs,r,g,ay,i,k _ _ (.inl rfl) e,c}|d6 kvs=>let(z,y,xs,r,g,ay,i,e,c):=x;calc{z,y,xs,Paired.mapP r λp q z=>{z.1,l _ _ z.2.1,z.2.2},g,ay,i,k _ _ (.inl rfl) e,c}|set S n=>let(g,ay,i,t,e,c):=x;calc{g,ay,i,t,k _ _ (.inl rfl) e,c}|ins C ao fs=>let(d,z,ne,e,cC,z0,r):=x;let(cD,ay,i,m,c):=z0;calc{j _ d,z,ne,k _ _ (.inl rfl) e,cC,{cD,ay,i,k _ _ (.inr d) m,c},r}|own y=>let(g,e):=x;calc{g,k _ _ (.inl rfl) e}|g8 fs=>let(cC,z1,r):=x;let(cD,ay,i,e,c):=z1;calc{cC,{cD,ay,i,k _ _ (.inl rfl) e,c},r}|tj lo af=>let(t,u,v,e):=x;calc{t,u,v,k _ _ (.inl rfl) e}|e1 g u s=>let(e,q):=x;calc{k _ _ (.inl rfl) e,s q}|lz ps=>have e:=x;calc k a _ (.inl rfl) e|met f y=>have e:=x;calc k a _ (.inl rfl) e|ext A=>let(p,z2,st):=x;let(o,e):=z2;calc{st _ _ p λo q=>k _ _ (.inl rfl) q,{o,k _ _ (.inl rfl) e},st}
def cu.lt(x:cu P w H h)(e:H a=some o):a<h.objs.size:=(x a o e).lt
def cu.fresh(x:cu P w H h)(e:h.objs.size<=a):H a=none:=by
 cases q:H a with|none=>rfl|some u=>calc absurd (Xq (x.lt q) e) (Yn _)
def cu.kept(x:cu P w H h)(k:∀b u,h.get? b=some u->h'.get? b=some u):cu P w H h':=λa o e=>(x a o e).ij (λb u _ q=>k b u q) (λ_ q=>q) λ_ _ q=>q
def cu.laid(x:cu P w H h)(k:∀b u,h.get? b=some u->h'.get? b=some u)(i:h.objs.size<=a)(d:cX P w (upd H a o) h' a o):cu P w (upd H a o) h':=λb u e=>by have f:=x.fresh i;by_cases g:b=a;subst g;rw[aO]at e;cases e;calc d;rw[aK g]at e;exact(x b u e).ij (λc v _ q=>k c v q) (λc q=>by rwa[aK (cT q f)]) λc xs q=>by rwa[aK (cT q f)]
end
def iV(H:am)(a:Addr)(u:bH):Prop:=H a=some u\/∃o,H a=some (.e1 o u)
def iV.ok(r:iV H a u)(x:cu P w H h):cX P w H h a u:=by
 rcases r with r|⟨o,r⟩;calc x a u r;let(_,q):=x a _ r;calc q
def q1:Option bH->Prop|some (.lst _)=>True|some (.b7 _)=>True|some (.d6 _)=>True|some (.set _ _)=>True|some (.ins _ _ _)=>True|some (.ext _)=>True|_=>False
section
variable {P:Program}{w:World}{H:am}{h h':Heap}{x e:Addr}{dq:bH}
def cu.write (ok:cu P w H h) (g:q1 (H x)) (m:e=x\/H e=some (.own x)) (k:∀b u,b≠e->h.get? b=some u->h'.get? b=some u) (j:∃u,h'.get? e=some u)
  (l:cX P w (upd H x dq) h' x dq):cu P w (upd H x dq) h':=λb u q=>by
 have d:∀c y,H c=some (.own y)->c≠x:=λc y r z=>by subst z;rw[r]at g;exact g
 have f:∀c xs,H c=some (.tup xs)->c≠x:=λc xs r z=>by subst z;rw[r]at g;exact g
 by_cases i:b=x
 ·subst i;rw[aO]at q;cases q;exact l
 ·rw[aK i]at q
  by_cases a:b=e
  ·have n:H b=some (.own x):=by
    rcases m with z|z
    ·nofun
    ·lia
   rw[q]at n;cases n;let(v,o):=j;exact{v,by rw[a];calc o}
  ·refine(ok b u q).ij (λc v hc r=>k c v ?_ r) (λc r=>by rw[aK (d c b r)];calc r) λc xs r=>by rw[aK (f c xs r)];exact r
   rcases hc with rfl|hc
   ·exact a
   ·rintro rfl
    rcases m with z|z
    ·grind
    ·nofun
end
structure cK(fs ex:List Addr)(H aj:am)(h h':Heap):Prop where
 keep:∀b o,h.get? b=some o->H b=none->b∉fs->b∉ex->h'.get? b=some o
 slot:∀b o,h.get? b=some o->H b=none->b∈fs->b∉ex->∃a3,h'.get? b=some {o with slots:=a3}
 free:∀b o,h.get? b=some o->H b=none->b∉ex->aj b=none
 there:∀b o,h.get? b=some o->b∉ex->∃dq,h'.get? b=some dq
 fw:∀b xs,H b=some (.tup xs)->aj b=some (.tup xs)
 fe:∀b o u,H b=some (.e1 o u)->aj b=some (.e1 o u)
 fx:∀b ps,H b=some (.lz ps)->∃more,aj b=some (.lz (ps++more))
section
variable {fs iW ex q2:List Addr}{H H1 ai:am}{h ae ag h':Heap}{a x e:Addr}{o:bH}
def cK.any(u:cK fs ex H H1 h ae){a:Obj}(q:h.get? b=some a)(n:H b=none)(c:b∉ex):∃a3,ae.get? b=some {a with slots:=a3}:=by by_cases d:b∈fs;calc u.slot b a q n d c;calc{a.slots,u.keep b a q n d c}
def cK.trans(a:cK fs ex H H1 h ae)(b:cK fs ex H1 ai ae ag):cK fs ex H ai h ag where
 keep:=λc d q n hc e=>b.keep c d (a.keep c d q n hc e) (a.free c d q n e) hc e
 slot:=λc d q n hc e=>by let(a3,f):=a.slot c d q n hc e;let(g,i):=b.slot c _ f (a.free c d q n e) hc e;exact⟨g,i⟩
 free:=λc d q n e=>by let(dq,f):=a.there c d q e;exact b.free c dq f (a.free c d q n e) e
 there:=λc d q e=>by let(dq,f):=a.there c d q e;exact b.there c dq f e
 fw:=λc xs q=>b.fw c xs (a.fw c xs q)
 fe:=λc d xs q=>b.fe c d xs (a.fe c d xs q)
 fx:=λc ps q=>by let(cA,f):=a.fx c ps q;let(dc,i):=b.fx c _ f;exact{cA++dc,by nofun}
def cK.kept(k:∀b u,h.get? b=some u->h'.get? b=some u):cK fs ex H H h h':=
 {λb a q _ _ _=>k b a q,λb a q _ _ _=>{a.slots,k b a q},λ_ _ _ n _=>n,λb a q _=>{a,k b a q},λ_ _ q=>q,λ_ _ _ q=>q,λ_ ps q=>{#[],by nofun}}
def cK.refl:cK fs ex H H h h:=cK.kept λ_ _ q=>q
def cK.laid(k:∀b u,h.get? b=some u->h'.get? b=some u)(d:h.objs.size<=a)(c:H a=none):cK fs ex H (upd H a o) h h' where
 keep:=λb u q _ _ _=>k b u q;slot:=λb u q _ _ _=>{u.slots,k b u q};free:=λb u q n _=>by rwa[aK (Xz (Xq (W' q) d))]
 there:=λb u q _=>{u,k b u q};fw:=λb xs q=>by rwa[aK (cT q c)]
 fe:=λb u xs q=>by rwa[aK (cT q c)]
 fx:=λb ps q=>{#[],by rw[aK (cT q c),q];simp}
def cK.write(c:q1 (H x))(j:e=x\/H e=some (.own x))(k:∀b u,b≠e->h.get? b=some u->h'.get? b=some u)(d:∃u,h'.get? e=some u):cK fs ex H (upd H x o) h h':=by
 have g:∀b,H b=none->b≠x:=λb n z=>by subst z;rwa[n]at c
 have i:∀b,H b=none->b≠e:=λb n z=>by
  subst z;rcases j with r|r;calc g b n r;rw[n]at r;cases r
 have f:∀b u,H b=some u->¬q1 (some u)->b≠x:=λb u q nm z=>by subst z;rw[q]at c;exact nm c
 refine{λb u q n _ _=>k b u (i b n) q,λb u q n _ _=>{u.slots,k b u (i b n) q},λb u q n _=>by rwa[aK (g b n)],λb u q _=>?_,
  λb xs q=>by rwa[aK (f b _ q λz=>z)],λb u xs q=>by rwa[aK (f b _ q λz=>z)],λb ps q=>{#[],by rw[aK (f b _ q λz=>z),q];simp}}
 by_cases a:b=e;subst a;calc d;calc{u,k b u a q}
end
def tl(h:Heap)(H:am):List Addr:=(List.range h.objs.size).filter λa=>(H a).isSome
def kb(h:Heap)(H:am):Heap:=PySem.W.hideAll h (tl h H)
def IS h H:(kb h H).objs.size=h.objs.size:=PySem.W.hideAll_size _ _
def IT(e:h.get? b=some o)(n:H b=none):(kb h H).get? b=some o:=
 PySem.W.hideAll_get _ e λa=>by have q:=(WY.mp a).2;rw[n]at q;simp at q
def IU(e:(kb h H).get? b=some o):h.get? b=some o/\H b=none:=by
 have a:=PySem.W.of_hideAll (tl h H) e;refine{a,?_};cases q:H b with|none=>rfl|some x=>have z:(kb h H).get? b=none:=PySem.W.hideAll_none (tl h H) (WY.mpr {WN.mpr (W' a),by nofun});rw[z]at e;cases e
def IV(g h:Heap)(L:Addr):List (Addr×Obj):=(List.range h.objs.size).filterMap λa=>if a=L\/(g.get? a).isSome=true then none else(h.get? a).map λo=>(a,o)
def rest(g h:Heap)(L d:Addr):List (Addr×Obj):=(IV g h L).filter λp=>decide (p.1≠d)
structure Mod(K:PySem.W.Frag)(mg:Str->Option Value)(base:Heap):Prop where
 kc:K.In base
 glob:base.Ns mainGlobals mg
 blt:∃wE,base.Ns builtinsNs wE/\∀x:Str,x≠ "__name__"->wE x=bootBuiltins x
 nolimit:base.NoLimit
structure aR where
 prog:Program
 w:World
 K:PySem.W.Frag
 mg:Str->Option Value
 base:Heap
 A:Around
 N:List Str
 s_0:Shared
 H_0:am
 env:Env
 outer:List Env
 stack:List Env
 ex:List Addr
 fn:Str->Bool
 calm:Bool
 pn:List (Addr×Obj)
 xe:Value->Shared->Prop
def cE(l:List Env):List Addr:=l.filterMap (·.frame)
abbrev aR.fs(X:aR):List Addr:=cE X.outer
def oI(sc:Scope)(x:Str):Prop:=sc.names.lookup x=some .local\/sc.names.lookup x=some .cell\/sc.names.lookup x=some .free
def Loc(sc:Scope)(x:Str):Prop:=sc.names.lookup x=some .local\/sc.names.lookup x=some .cell
def Look(env:Env)(h:Heap)(m:Str->Option Value)(x:Str)(u:Value):Prop:=
 (env.kindOf x=some .local/\m x=some u)\/((env.kindOf x=some .cell\/env.kindOf x=some .free)/\∃c,env.cells.lookup x=some c/\h.IsCell c (some u))
structure aR.Ok(X:aR):Prop where
 mod:Mod X.K X.mg X.base
 kind:X.env.scope.kind=.function
 glob:X.env.globals=mainGlobals
 blt:X.env.builtins=builtinsNs
 above:X.s_0.heap.objs.size<=X.env.locals
 inj:∀x y c,X.env.cells.lookup x=some c->X.env.cells.lookup y=some c->x=y
 has:∀x,(X.env.kindOf x=some .cell\/X.env.kindOf x=some .free)->∃c,X.env.cells.lookup x=some c
 mW:∀x c,X.fn x=true->X.env.cells.lookup x=some c->X.s_0.heap.objs.size<=c
 hd:X.calm=true->X.A.handled=none
 frames:X.A.frames=some X.stack
 oJ:X.stack=X.outer\/(X.stack=X.env::X.outer/\X.env.frame=some X.env.locals)
 oK:∀b∈X.ex,b≠X.env.locals/\∀x c,X.env.cells.lookup x=some c->c≠b
 bs:∀b o,X.base.get? b=some o->X.s_0.heap.get? b=some o/\X.H_0 b=none
 hI:X.base.objs.size<=X.s_0.heap.objs.size
 mX:∀b o,X.base.get? b=some o->b∉X.ex
 lA:∀b∈X.ex,b∉X.fs
 funs:X.s_0.heap.FunFrames X.base X.outer
 iX:∀b∈X.fs,X.H_0 b=none
structure Inv(X:aR)(pins:List (Addr×Obj))(aa:List (Option V))(H:am)(s:Shared):Prop where
 ok:X.Ok
 os:s.os=X.s_0.os
 bare:AllBare s.gens
 base:cK X.fs X.ex X.H_0 H X.s_0.heap s.heap
 loc:∃m,s.heap.Ns X.env.locals m/\∀(i:Nat)(x:Str)(v:V),X.N[i]? =some x->aa[i]? =some (some v)->oI X.env.scope x->∃u,RelV v u/\Look X.env s.heap m x u
 cell:∀x c,X.env.cells.lookup x=some c->∃v,s.heap.IsCell c v
 free:H X.env.locals=none
 fy:∀x c,X.env.cells.lookup x=some c->H c=none
 pin:∀p∈X.pn++pins,s.heap.get? p.1=some p.2/\H p.1=none/\p.1≠X.env.locals/\p.1∉X.fs/\∀v,p.2.data≠.cell v
 aS:cu X.prog X.w H s.heap
 len:aa.length=X.N.length
section
variable {X:aR}{pins:List (Addr×Obj)}{aa:List (Option V)}{H aj:am}{s:Shared}{h':Heap}
def aR.Ok.IW(ok:X.Ok)(e:X.base.get? b=some o):b∉X.fs:=λa=>by have:=(ok.funs.mem a).1;rw[e]at this;cases this
def Inv.bs(I:Inv X pins aa H s):∀b o,X.base.get? b=some o->s.heap.get? b=some o/\H b=none:=λb o e=>{I.base.keep b o (I.ok.bs b o e).1 (I.ok.bs b o e).2 (I.ok.IW e) (I.ok.mX b o e),I.base.free b o (I.ok.bs b o e).1 (I.ok.bs b o e).2 (I.ok.mX b o e)}
def Inv.bk(I:Inv X pins aa H s):∀b o,X.base.get? b=some o->s.heap.get? b=some o:=λb o e=>(I.bs b o e).1
def Inv.mod(I:Inv X pins aa H s):Mod X.K X.mg X.base:=I.ok.mod
def Inv.kIn(I:Inv X pins aa H s):X.K.In s.heap:=I.ok.mod.kc.keeps I.bk
def Inv.nolimit(I:Inv X pins aa H s):s.heap.NoLimit:=I.ok.mod.nolimit.keeps I.bk
def Inv.fr(I:Inv X pins aa H s):∃m,Fr X.base X.env.locals s.heap m:=
 have⟨m,c0,_⟩:=I.loc;{m,c0,I.bk,W1 I.ok.hI I.ok.above}
def Inv.lt(I:Inv X pins aa H s):X.env.locals<s.heap.objs.size:=have⟨_,c0,_⟩:=I.loc;c0.lt
def Inv.sz(I:Inv X pins aa H s):X.s_0.heap.objs.size<=s.heap.objs.size:=W1 I.ok.above (Yg I.lt)
def Inv.nofs(I:Inv X pins aa H s){a:Addr}(h:s.heap.objs.size<=a):a∉X.fs:=λb=>by let(_,o,c,_):=I.ok.funs.mem b;calc absurd (Xq (W' c) (W1 I.sz h)) (Yn _)
def Inv.cne(I:Inv X pins aa H s):∀x c,X.env.cells.lookup x=some c->c≠X.env.locals:=λx c e z=>by let(v,o,d,hd):=I.cell x c e;let(m,z0,_):=I.loc;let(dq,ay,f,a,b,_):=z0;erw[z,a]at d;cases d;rw[b]at hd;cases hd
def Inv.funs(I:Inv X pins aa H s):s.heap.FunFrames X.base X.outer:=by
 have all:∀l,(∀b∈cE l,b∈X.fs)->X.s_0.heap.FunFrames X.base l->s.heap.FunFrames X.base l:=by
  intro l;induction l with|nil=>intro _ _;trivial|cons env r f=>intro hs hl;let(ak,z0,i):=hl;let(L,o,a,g,h,hd):=z0;have c:=hs L (by unfold cE;rw[YC,a];calc WD);let(a3,e):=I.base.slot L o h (I.ok.iX L c) c λz=>I.ok.lA L z c;exact{ak,{L,_,a,g,e,hd},f (λb d=>hs b (by unfold cE;rw[YC,a];calc WE _ d)) i}
 calc all X.outer (λ_ d=>d) I.ok.funs
def Inv.stack(I:Inv X pins aa H s):s.heap.FunFrames X.base X.stack:=by
 rcases I.ok.oJ with e|⟨e,a⟩;rw[e];calc I.funs;rw[e];have⟨m,b,_⟩:=I.loc;refine .cons (by rw[I.ok.kind];decide) a b ?_ I.funs;calc Heap.get?_none_of_le (W1 I.ok.hI I.ok.above)
def Inv.stkSub(I:Inv X pins aa H s):∀b∈cE X.stack,b∈X.env.locals::X.fs:=λb a=>by
 rcases I.ok.oJ with e|⟨e,c⟩;nofun;rw[e]at a;unfold cE at a;rwa[YC,c]at a
def Inv.stkFree(I:Inv X pins aa H s):∀b∈cE X.stack,H b=none:=λb bD=>by
 rcases WW.mp (I.stkSub b bD)with e|bD;rw[e];calc I.free;let(_,o,a,_):=I.ok.funs.mem bD;calc I.base.free b o a (I.ok.iX b bD) λz=>I.ok.lA b z bD
def Inv.step{ch:List Addr}(I:Inv X pins aa H s)
  (f:∀b∈ch,(b∈X.ex\/X.s_0.heap.objs.size<=b)/\b≠X.env.locals/\(∀x c,X.env.cells.lookup x=some c->c≠b)/\∀p∈X.pn++pins,p.1≠b)
  (keep:∀b o,b≠X.env.locals->b∉X.fs->b∉ch->s.heap.get? b=some o->H b=none->h'.get? b=some o)
  (slot:∀b o,b≠X.env.locals->b∈X.fs->b∉ch->s.heap.get? b=some o->H b=none->∃a3,h'.get? b=some {o with slots:=a3}) (free:∀b o,b∉ch->s.heap.get? b=some o->H b=none->aj b=none)
  (there:∀b o,b∉ch->s.heap.get? b=some o->∃dq,h'.get? b=some dq)
  (fw:∀b xs,H b=some (.tup xs)->aj b=some (.tup xs)) (fe:∀b o u,H b=some (.e1 o u)->aj b=some (.e1 o u)) (fx:∀b ps,H b=some (.lz ps)->∃more,aj b=some (.lz (ps++more)))
  (ns:∀m,s.heap.Ns X.env.locals m->h'.Ns X.env.locals m) (aS:cu X.prog X.w aj h') (F:AllBare g'):
  Inv X pins aa aj {s with heap:=h',gens:=g',drawn:=d',toks:=t'}:=by
 have A:∀b o,X.s_0.heap.get? b=some o->b≠X.env.locals:=λb o e=>Xz (Xq (W' e) I.ok.above);have j:∀b o,X.s_0.heap.get? b=some o->b∉X.ex->b∉ch:=λb o e a w=>by
  rcases(f b w).1 with z|z
  calc a z;exact absurd (Xq (W' e) z) (Yn _)
 have g:∀x c,X.env.cells.lookup x=some c->∀v,s.heap.IsCell c v->h'.IsCell c v:=λx c e v zz=>by let(o,y,hd):=zz;exact by have h:c∉ch:=λz=>(f c z).2.2.1 x c e rfl;by_cases hc:c∈X.fs;let(a3,q):=slot c o (I.cne x c e) hc h y (I.fy x c e);calc{_,q,hd};exact{o,keep c o (I.cne x c e) hc h y (I.fy x c e),hd}
 refine{I.ok,I.os,F,{λb o e n w a=>?_,λb o e n w a=>?_,λb o e n a=>?_,λb o e a=>?_,λb xs e=>fw b xs (I.base.fw b xs e),λb o xs e=>fe b o xs (I.base.fe b o xs e),λb ps e=>?_},?_,λx c e=>?_,?_,λx c e=>?_,λp D=>?_,aS,I.len};calc keep b o (A b o e) w (j b o e a) (I.base.keep b o e n w a) (I.base.free b o e n a);let(a3,t):=I.base.slot b o e n w a;let(C,B):=slot b _ (A b o e) w (j b o e a) t (I.base.free b o e n a);calc⟨C,B⟩;let(dq,t):=I.base.there b o e a;calc free b dq (j b o e a) t (I.base.free b o e n a);let(dq,t):=I.base.there b o e a;calc there b dq (j b o e a) t;let(cA,t):=I.base.fx b ps e;let(dc,B):=fx b _ t;exact{cA++dc,by rw[B,aaD]};let(m,G,hl):=I.loc;refine{m,ns m G,λi x v t B J=>?_};let(u,r,l):=hl i x v t B J;refine{u,r,?_};rcases l with l|⟨k,c,e,z⟩
 calc .inl l;calc .inr {k,c,e,g x c e _ z};let(v,z):=I.cell x c e;calc{v,g x c e v z};let(m,z0,_):=I.loc;let(o,_,_,y,_):=z0;calc free _ o (λz=>(f _ z).2.1 rfl) y I.free;let(v,o,y,hd):=I.cell x c e;calc free c o (λz=>(f c z).2.2.1 x c e rfl) y (I.fy x c e);let(e,n,ne,E,d):=I.pin p D;have h:p.1∉ch:=λz=>(f p.1 z).2.2.2 p D rfl;calc{keep p.1 p.2 ne E h e n,free p.1 p.2 h e n,ne,E,d}
def Inv.un(I:Inv X pins aa H s)(u:cK X.fs [] H aj s.heap h')(aS:cu X.prog X.w aj h'):Inv X pins aa aj {s with heap:=h',toks:=t'}:=by let(m,z0,_):=id I.loc;let(o,ay,k,g,r):=z0;let(a3,h):=u.any g I.free (by simp);exact I.step (ch:=[]) (λ_ z=>nomatch z) (λb o _ c _ e n=>u.keep b o e n c (by simp)) (λb o _ c _ e n=>u.slot b o e n c (by simp)) (λb o _ e n=>u.free b o e n (by simp)) (λb o _ e=>u.there b o e (by simp)) u.fw u.fe u.fx (λl i=>by let(dq,d,f,a,j):=i;rw[g]at a;cases a;calc{_,d,f,h,j}) aS I.bare
def Inv.call(I:Inv X pins aa H s)(u:cK (cE X.stack) ch H aj s.heap h')(aS:cu X.prog X.w aj h')(j:AllBare g')
  (a:∀b∈ch,(b∈X.ex\/X.s_0.heap.objs.size<=b)/\b≠X.env.locals/\(∀x c,X.env.cells.lookup x=some c->c≠b)/\∀p∈X.pn++pins,p.1≠b):
  Inv X pins aa aj {s with heap:=h',gens:=g',drawn:=d',toks:=t'}:=by
 let(m,z0,_):=id I.loc;let(o,ay,t,i,r):=z0;let(a3,f):=u.any i I.free λz=>(a _ z).2.1 rfl;exact I.step a (λb o f k hc e n=>u.keep b o e n (λz=>(WW.mp (I.stkSub b z)).elim f k) hc) (λb o _ _ hc e n=>u.any e n hc) (λb o hc e n=>u.free b o e n hc) (λb o hc e=>u.there b o e hc) u.fw u.fe u.fx (λv l=>by let(dq,g,h,d,q):=l;rw[i]at d;cases d;calc{_,g,h,f,q}) aS j
def Inv.turned(I:Inv X pins aa H s)(k:∀b o,b≠it->s.heap.get? b=some o->h'.get? b=some o)(f:H it=none)(d:it≠X.env.locals)
  (ae:it∈X.ex\/X.s_0.heap.objs.size<=it) (ag:∀x c,X.env.cells.lookup x=some c->c≠it) (g:∀p∈X.pn++pins,p.1≠it):Inv X pins aa H {s with heap:=h',toks:=t'}:=by
 have a:∀b u,H b=some u->b≠it:=λb u e z=>by rw[z,f]at e;cases e
 refine I.step (ch:=[it]) (λb h=>?_) (λb o _ _ hc e _=>k b o (λz=>hc (by simp[z])) e) (λb o _ _ hc e _=>{o.slots,k b o (λz=>hc (by simp[z])) e}) (λ_ _ _ _ n=>n)
  (λb o hc e=>{o,k b o (λz=>hc (by simp[z])) e}) (λ_ _ e=>e) (λ_ _ _ e=>e) (λb ps e=>{#[],by rw[e];simp}) (λm i=>?_) (λb u e=>?_) I.bare
 have e:b=it:=by simpa using h
 subst e;calc⟨ae,d,ag,g⟩;let(o,ay,j,l,r):=i;calc{o,ay,j,k _ o (XE d) l,r};refine(I.aS b u e).ij (λc v hc q=>k c v ?_ q) (λ_ q=>q) λ_ _ q=>q;rcases hc with z|z;rw[z];calc a b u e;calc a c _ z
def Inv.tok(I:Inv X pins aa H s)t:Inv X pins aa H {s with toks:=t}:=I.un cK.refl I.aS
def Inv.kept(I:Inv X pins aa H s)(k:∀b u,s.heap.get? b=some u->h'.get? b=some u):Inv X pins aa H {s with heap:=h',toks:=t'}:=I.un (cK.kept k) (I.aS.kept k)
def Inv.laid{a:Addr}(I:Inv X pins aa H s)(k:∀b u,s.heap.get? b=some u->h'.get? b=some u)(c:s.heap.objs.size<=a)(d:cX X.prog X.w (upd H a o) h' a o):
  Inv X pins aa (upd H a o) {s with heap:=h',toks:=t'}:=I.un (cK.laid k c (I.aS.fresh c)) (I.aS.laid k c d)
def Inv.write(I:Inv X pins aa H s)(d:q1 (H x))(f:e=x\/H e=some (.own x))(k:∀b u,b≠e->s.heap.get? b=some u->h'.get? b=some u)(a:∃u,h'.get? e=some u)
  (c:cX X.prog X.w (upd H x o) h' x o):Inv X pins aa (upd H x o) {s with heap:=h',toks:=t'}:=I.un (cK.write d f k a) (I.aS.write d f k a c)
def Inv.weak(I:Inv X pins aa H s)(hl:σ'.length=aa.length)(w:∀(i:Nat)v,σ'[i]? =some (some v)->aa[i]? =some (some v)):Inv X pins σ' H s:=
 {I.ok,I.os,I.bare,I.base,have⟨m,c0,wF⟩:=I.loc;{m,c0,λi x v a b c=>wF i x v a (w i v b) c},I.cell,I.free,I.fy,I.pin,I.aS,hl.trans I.len}
def Inv.pins_of(I:Inv X pins aa H s)(h:∀p∈a,s.heap.get? p.1=some p.2/\H p.1=none/\p.1≠X.env.locals/\p.1∉X.fs/\∀v,p.2.data≠.cell v):Inv X a aa H s:=
 {I.ok,I.os,I.bare,I.base,I.loc,I.cell,I.free,I.fy,λp b=>(Xc.mp b).elim (λz=>I.pin p (Xa _ z)) (h p),I.aS,I.len}
def tm{N:List Str}(c:N.Nodup){i j:Nat}(a:N[i]? =some x)(b:N[j]? =some x):i=j:=by let(ae,d):=WH.mp a;let(ag,e):=WH.mp b;calc(Zz c).mp (d.trans e.symm)
def AB{M:Model}{A:Around}(I:Inv X pins aa H s)(e2:X.N.Nodup)(af:X.N[i]? =some x)(l:Loc X.env.scope x)(r:RelV v u)
  (h:∀s',Inv X pins (aa.set i (some v)) H s'->(∃a,Heap.SameBut a s.heap s'.heap/\(a=X.env.locals\/X.env.cells.lookup x=some a))->Q () s') (hf:X.fn x=true\/X.env.scope.names.lookup x=some .local:=by first|exact .inl rfl|exact .inr rfl|assumption):wpAny M A (storeName X.env x u) Q E s:=by
 let(m,R,hl):=id I.loc;have G:(X.env.scope.kind== .class||(X.env.scope.kind== .module&&X.env.locals !=X.env.globals))=false:=by rw[I.ok.kind];rfl
 have B:i<aa.length:=by rw[I.len];exact(WH.mp af).1
 have cne:=I.cne;have f:∀{a:Addr}{h':Heap},(∃o,s.heap.get? a=some o/\H a=none)->Heap.SameBut a s.heap h'->cu X.prog X.w H h':=λ{a h'}df hs b wG e=>by
  let(_,_,t):=df;refine(I.aS b wG e).ij (λc O hc q=>(hs.2 c ?_).trans q) (λ_ q=>q) λ_ _ q=>q;rintro rfl;rcases hc with rfl|hc
  nofun;nofun
 rcases l with ak|ak
 refine wpAny_storeName_local ak R (λh' S hs=>?_) G;let(IX,_,_,T,_):=id R;refine h _ {I.ok,I.os,I.bare,{λb o e n C l=>?_,λb o e n C l=>?_,I.base.free,λb o e l=>?_,I.base.fw,I.base.fe,I.base.fx},{_,S,λj y U g w W=>?_},λy c e=>?_,I.free,I.fy,λp Y=>?_,f ⟨IX,T,I.free⟩ hs,by simpa using I.len} {_,hs,.inl rfl};calc(hs.2 b (Xz (Xq (W' e) I.ok.above))).trans (I.base.keep b o e n C l);let(a3,g):=I.base.slot b o e n C l;calc{a3,(hs.2 b (Xz (Xq (W' e) I.ok.above))).trans g};let(dq,g):=I.base.there b o e l;calc{dq,(hs.2 b (Xz (Xq (W' e) I.ok.above))).trans g};by_cases D:j=i;subst D;rw[af]at g;cases g;rw[Zi B]at w;cases w;exact{u,r,.inl {ak,by simp}};rw[X6 (XE D)]at w;let(Z,lB,q):=hl j y U g w W;refine{Z,lB,?_};rcases q with⟨k,e⟩|⟨k,c,e,z⟩
 refine .inl {k,?_};have:y≠x:=λe=>D (tm e2 g (e▸af));simp[this,e];calc .inr {k,c,e,z.sameBut hs (cne y c e)};let(O,z):=I.cell y c e;calc{O,z.sameBut hs (cne y c e)};let(e,n,ne,q3,d):=I.pin p Y;calc{(hs.2 p.1 ne).trans e,n,ne,q3,d};have F:X.fn x=true:=by
  rcases hf with z|z
  calc z;rw[z]at ak;cases ak
 let(c,hc):=I.ok.has x (.inl ak);let(O,z):=I.cell x c hc;refine wpAny_storeName_cell I.ok.kind ak hc z (λh' J hs=>?_);let(ff,K,L):=id z;refine h {s with heap:=h'} {I.ok,I.os,I.bare,{λb o e n C l=>?_,λb o e n C l=>?_,I.base.free,λb o e l=>?_,I.base.fw,I.base.fe,I.base.fx},{m,R.sameBut hs (XE (cne x c hc)),λj y U g w W=>?_},λy P e=>?_,I.free,I.fy,λp Y=>?_,f {ff,K,I.fy x c hc} hs,by simpa using I.len} {c,hs,.inr hc};calc(hs.2 b (Xz (Xq (W' e) (I.ok.mW x c F hc)))).trans (I.base.keep b o e n C l);let(a3,g):=I.base.slot b o e n C l;calc{a3,(hs.2 b (Xz (Xq (W' e) (I.ok.mW x c F hc)))).trans g};let(dq,g):=I.base.there b o e l;calc{dq,(hs.2 b (Xz (Xq (W' e) (I.ok.mW x c F hc)))).trans g};by_cases D:j=i;subst D;rw[af]at g;cases g;rw[Zi B]at w;cases w;calc{u,r,.inr {.inl ak,c,hc,J}};rw[X6 (XE D)]at w;let(Z,lB,q):=hl j y U g w W;refine{Z,lB,?_};rcases q with q|⟨k,P,e,wH⟩
 calc .inl q;refine .inr {k,P,e,wH.sameBut hs ?_};rintro rfl;calc D (tm e2 g (I.ok.inj _ _ _ e hc▸af));by_cases N:P=c;subst N;calc{_,J};let(v7,eW):=I.cell y P e;calc{v7,eW.sameBut hs N};let(e,n,ne,q3,d):=I.pin p Y;refine{(hs.2 p.1 ?_).trans e,n,ne,q3,d};intro q;rw[q,K]at e;have IY:ff=p.2:=Xw e;calc d O (by rw[<-IY];calc L)
def tn{M:Model}{A:Around}(I:Inv X pins aa H s)(a:X.N.Nodup)(af:X.N[i]? =some x)(b:Loc X.env.scope x)(r:RelV v u)
  (h:∀s',Inv X pins (aa.set i (some v)) H s'->Q () s') (c:X.fn x=true\/X.env.scope.names.lookup x=some .local:=by first|exact .inl rfl|exact .inr rfl|assumption):wpAny M A (storeName X.env x u) Q E s:=
 AB I a af b r (λs' d _=>h s' d) c
def Inv.call'(I:Inv X pins aa H s)(d:s'.os=s.os)(u:cK (cE X.stack) ch H aj s.heap s'.heap)(aS:cu X.prog X.w aj s'.heap)(f:AllBare s'.gens)
  (a:∀b∈ch,(b∈X.ex\/X.s_0.heap.objs.size<=b)/\b≠X.env.locals/\(∀x c,X.env.cells.lookup x=some c->c≠b)/\∀p∈X.pn++pins,p.1≠b):Inv X pins aa aj s':=by
 let(h',g',d',t',dq):=s';have e:=d;subst e;calc I.call u aS f a
end
abbrev b8:=Value->Option Addr->am->Prop
abbrev St:=List (Option V)
abbrev aE:=V->am->Prop
abbrev TE:=St->am->aE->Prop
abbrev TT:=St->am->(Bool->am->Prop)->Prop
abbrev ci:=St->am->(List V->am->Prop)->Prop
structure Ends where
 nx:St->am->Prop
 rt:aE
 bk:St->am->Prop:=λ_ _=>False
 ct:St->am->Prop:=λ_ _=>False
abbrev cy:=Ends->St->am->Prop
def en(X:aR)(pins:List (Addr×Obj))(aa:St)(Q:aE)(u:Value)(s':Shared):Prop:=∃v aj,Inv X pins aa aj s'/\RelV v u/\Q v aj
def wI(X:aR)(pins:List (Addr×Obj))(aa:St)(Q:Bool->am->Prop)(b:Bool)(s':Shared):Prop:=∃aj,Inv X pins aa aj s'/\Q b aj
def IZ(X:aR)(pins:List (Addr×Obj))(aa:St)(Q:List V->am->Prop)(us:List Value)(s':Shared):Prop:=∃vs aj,Inv X pins aa aj s'/\a0 vs us/\Q vs aj
def kd(X:aR)(pins:List (Addr×Obj))(D:Ends)(f:Flow)(s':Shared):Prop:=
 match f with
 |.next=>∃σ' aj,Inv X pins σ' aj s'/\D.nx σ' aj
 |.brk=>∃σ' aj,Inv X pins σ' aj s'/\D.bk σ' aj
 |.cont=>∃σ' aj,Inv X pins σ' aj s'/\D.ct σ' aj
 |.ret u=>∃v σ' aj,Inv X pins σ' aj s'/\RelV v u/\D.rt v aj
def aH(X:aR)(e:Expr)(t:TE):Prop:=
 ∀pins s(aa:St)H Q,Inv X pins aa H s->t aa H Q->wpAny (model X.prog X.w) X.A (eval e X.env) (en X pins aa Q) X.xe s
def fY(X:aR)(e:Expr)(t:TT):Prop:=
 ∀pins s(aa:St)H Q,Inv X pins aa H s->t aa H Q->wpAny (model X.prog X.w) X.A (isTrue e X.env (eval e X.env)) (wI X pins aa Q) X.xe s
def dP(X:aR)(e:Expr)(t:TT):Prop:=
 ∀whole pins s(aa:St)H Q,Inv X pins aa H s->t aa H Q->wpAny (model X.prog X.w) X.A (isTrue e X.env whole) (wI X pins aa Q) X.xe s
def dP.pt(h:dP X e t):fY X e t:=h _
def dF(X:aR)(ay:List Expr)(t:ci):Prop:=
 ∀pos pins s(aa:St)H Q,Inv X pins aa H s->t aa H Q->wpAny (model X.prog X.w) X.A (spliced (backTo pos (starEach ay X.env))) (IZ X pins aa Q) X.xe s
def fz(X:aR)(st:Stmt)(t:cy):Prop:=
 ∀pins s(aa:St)H D,Inv X pins aa H s->t D aa H->wpAny (model X.prog X.w) X.A (exec st X.env) (kd X pins D) X.xe s
def eo(X:aR)(st:List Stmt)(t:cy):Prop:=
 ∀pins s(aa:St)H D,Inv X pins aa H s->t D aa H->wpAny (model X.prog X.w) X.A (execs st X.env) (kd X pins D) X.xe s
def aW{t:Sem α}{Q b:α->Shared->Prop}(h:wpAny M A t Q E s)(c:∀a s,Q a s->b a s):wpAny M A t b E s:=Yi h c λ_ _ x=>x
section
variable {X:aR}
def zN0(o:Option (Option V))(f:V->Prop):Prop:=match o with|some (some v)=>f v|_=>False
def zB0(x:V)(f:Bool->Prop):Prop:=match x with|.aG k=>f k|_=>False
def zI0(x:V)(f:Int->Prop):Prop:=match x with|.int i=>f i|_=>False
def zR0(x:V)(f:Addr->Prop):Prop:=match x with|.ref a=>f a|_=>False
def zN1{o}{f:V->Prop}:zN0 o f->∃v,o=some (some v)/\f v:=by unfold zN0;split;calc λh=>{_,rfl,h};exact (·.elim)
def zB1{x f}:zB0 x f->∃v,x=.aG v/\f v:=by unfold zB0;split;calc λh=>{_,rfl,h};exact (·.elim)
def zI1{x f}:zI0 x f->∃v,x=.int v/\f v:=by unfold zI0;split;calc λh=>{_,rfl,h};exact (·.elim)
def zR1{x f}:zR0 x f->∃v,x=.ref v/\f v:=by unfold zR0;split;calc λh=>{_,rfl,h};exact (·.elim)
def mY(i:Nat):TE:=λaa H Q=>zN0 aa[i]? λv=>Q v H
def iY(v:V):TE:=λ_ H Q=>Q v H
def I0{pos:Pos}(f:X.N[i]? =some x)(g:oI X.env.scope x)(hd:(x==("__debug__":Str))=false:=by decide)(d:(x==("__classdict__":Str))=false:=by decide):aH X (.Name x pos) (mY i):=by
 intro pins s aa H Q I h;let(v,e,h):=zN1 h;let(m,j,hl):=I.loc;let(u,r,l):=hl i x v f e g;have b:en X pins aa Q u s:=⟨v,H,I,r,h⟩;rcases l with⟨ak,k⟩|⟨ak,c,hc,a⟩;calc aak (YP I.ok.kind ak j k b) hd;rcases ak with ak|ak;calc aak (wpAny_loadName_cell I.ok.kind ak hc a b) hd;calc aak (wpAny_loadName_free I.ok.kind ak hc a b d) hd
def aJ:aH X (.Constant (.int i) j pos) (iY (.int i)):=λ_ _ _ H _ I h=>wpAny_Constant_int {.int i,H,I.tok _,{_,rfl},h}
def js:aH X (.Constant (.bool b) j pos) (iY (.aG b)):=λ_ _ _ H _ I h=>Constant_bool {.aG b,H,I,rfl,h}
def wJ:aH X (.Constant .none j pos) (iY .bb):=λ_ _ _ H _ I h=>Constant_none {.bb,H,I,rfl,h}
def dQ:aH X (.Constant (.str x) j pos) (iY (.str x)):=λ_ _ _ H _ I h=>Calls.Constant_str {.str x,H,I.tok _,{_,rfl},h}
def d2(X:aR)(x:Str):Prop:=X.env.kindOf x=some .globalImplicit
def lC{aa:St}(I:Inv X pins aa H s)(a:d2 X x)(b:X.mg x=some u)(h:Q u s)
  (hd:(x==("__debug__":Str))=false:=by decide):wpAny (model X.prog X.w) X.A (eval (.Name x pos) X.env) Q E s:=
 aaz I.ok.kind a (Calls.loadGlobal_global (by rw[I.ok.glob];calc I.mod.glob.keeps I.bk) b h) hd
def oL{E:Value->Shared->Prop}{aa:St}{pos:Pos}(I:Inv X pins aa H s)(a:d2 X x)(b:X.mg x=none)(c:bootBuiltins x=some u)(h:Q u s)
  (d:x≠ "__name__":=by decide) (hd:(x==("__debug__":Str))=false:=by decide):wpAny (model X.prog X.w) X.A (eval (.Name x pos) X.env) Q E s:=by
 let(e,ae,ag):=I.mod.blt;calc aaz I.ok.kind a (Calls.loadGlobal_builtin (by rw[I.ok.glob];calc I.mod.glob.keeps I.bk) b (by rw[I.ok.blt];calc ae.keeps I.bk) ((ag x d).trans c) h) hd
def wK(a:d2 X x)(b:X.mg x=some u)(r:RelV v u)(hd:(x==("__debug__":Str))=false:=by decide):aH X (.Name x pos) (iY v):=
 λ_ _ _ H _ I h=>lC I a b ⟨v,H,I,r,h⟩ hd
variable {a b:Expr}{aP bi:TE}{pos:Pos}
def tp(X:aR)(e:CmpOp)(a b:Expr)(t:TE):Prop:=
 ∀pins s(aa:St)H Q,Inv X pins aa H s->t aa H Q->
  wpAny (model X.prog X.w) X.A (eval a X.env) (λv c=>wpAny (model X.prog X.w) X.A (eval b X.env) (λu d=>wpAny (model X.prog X.w) X.A (compareOp e v u) (en X pins aa Q) X.xe d) X.xe c) X.xe s
def I1 b{a:CmpOp}(h:a≠.In)(ag:a≠.NotIn):behindInMarks a b=false:=by
 have c:(a==CmpOp.In)=false:=by nofun<;>first|rfl|exact absurd rfl h
 have d:(a==CmpOp.NotIn)=false:=by nofun<;>first|rfl|exact absurd rfl ag
 cases b<;>simp[behindInMarks,c,d]
def AC(aP:TE):TE:=λaa H Q=>aP aa H λx H1=>Q (.aG (decide (x=.bb))) H1
def I2(aP:TE):TE:=λaa H Q=>aP aa H λx H1=>Q (.aG (!decide (x=.bb))) H1
def RelV.none_iff(r:RelV x v):(v==Value.none)=decide (x=.bb):=by
 cases x with|bb=>cases r;rfl|aG _=>cases r;rfl|int _=>let(t,rfl):=r;rfl|str _=>let(t,rfl):=r;rfl|fX _=>let(t,rfl):=r;rfl|q0 _=>let(t,rfl):=r;rfl|ref _=>cases r;rfl|ty _=>cases r;rfl
def AD(b:aH X a aP):tp X .Is a (.Constant .none j pos') (AC aP):=by refine λpins s aa H Q I h=>aW (b pins s aa H _ I h) λv s1 zz=>?_;let(x,H1,aA,c,d):=zz;calc Constant_none (is_none_gen {.aG _,H1,aA,by rw[c.none_iff];rfl,d})
def wL(t:TE):TT:=λaa H Q=>t aa H λx H1=>zB0 x λc=>Q c H1
def iZ(h:tp X e a b t)(ae:behindInMarks e b=false:=by first|exact I1 _ (by decide) (by decide)|rfl):fY X (.Compare a [e] [b] pos) (wL t):=by refine λpins s aa H Q I f=>wpAny_isTrue_Compare1 (aW (h pins s aa H _ I f) λv s1 ae=>aW ae λu j ag=>aW ag λc k zz=>?_) ae;let(x,H1,aA,g,i):=zz;let(d,rfl,q):=zB1 i;cases g;calc YD ⟨H1,aA,q⟩
def b9(h:aH X e t)(a:∀whole,isTrue e X.env whole=(do let v<-whole;standAt e.pos;holding [v] (truthy v)):=by intro _;rfl):fY X e (wL t):=by refine λpins s aa H Q I b=>isTrue_plain (aW (h pins s aa H _ I b) λv s1 zz=>?_) (a _);let(x,H1,aA,c,f):=zz;let(d,rfl,q):=zB1 f;cases c;calc YD ⟨H1,aA,q⟩
variable {g9 tq:TT}{rest:List Expr}
def AE(t u:TT):TT:=λaa H Q=>t aa H λc H1=>if c=true then u aa H1 Q else Q false H1
def AF(t u:TT):TT:=λaa H Q=>t aa H λc H1=>if c=true then Q true H1 else u aa H1 Q
def AG(t:TT):TT:=λaa H Q=>t aa H λc H1=>Q (!c) H1
def i0(b:fY X a g9):dP X (.BoolOp .And [a] pos) g9:=by
 refine λd pins s aa H Q I h=>isTrue_and (aW (b pins s aa H Q I h) λc s1 e=>?_);cases c with|true=>calc isTrue_and_nil e|false=>nofun
def ke(b:fY X a g9):dP X (.BoolOp .Or [a] pos) g9:=by
 refine λd pins s aa H Q I h=>isTrue_or (aW (b pins s aa H Q I h) λc s1 e=>?_);cases c with|false=>calc isTrue_or_nil e|true=>nofun
def i1(e:fY X a g9)(f:dP X (.BoolOp .And (b::rest) pos) tq):dP X (.BoolOp .And (a::b::rest) pos) (AE g9 tq):=by
 refine λg pins s aa H Q I h=>isTrue_and (aW (e pins s aa H _ I h) λc s1 zz=>?_);let(H1,aA,d):=zz;cases c with|true=>calc f g pins s1 aa H1 Q aA d|false=>calc⟨H1,aA,d⟩
def kf(e:fY X a g9)(f:dP X (.BoolOp .Or (b::rest) pos) tq):dP X (.BoolOp .Or (a::b::rest) pos) (AF g9 tq):=by
 refine λg pins s aa H Q I h=>isTrue_or (aW (e pins s aa H _ I h) λc s1 zz=>?_);let(H1,aA,d):=zz;cases c with|true=>calc⟨H1,aA,d⟩|false=>calc f g pins s1 aa H1 Q aA d
def jt(b:fY X a g9):fY X (.UnaryOp .Not a pos) (AG g9):=λpins s aa H Q I h=>isTrue_not (b pins s aa H (λc H1=>Q (!c) H1) I h)
def AH(aP bi:TE):TE:=λaa H Q=>aP aa H λx H1=>zB0 x λc=>if c=true then bi aa H1 Q else Q (.aG false) H1
def AI(aP bi:TE):TE:=λaa H Q=>aP aa H λx H1=>zB0 x λc=>if c=true then Q (.aG true) H1 else bi aa H1 Q
def AJ(aP:TE):TE:=λaa H Q=>aP aa H λx H1=>zB0 x λc=>Q (.aG (!c)) H1
def tr(h:aH X a t):aH X (.BoolOp op [a] pos) t:=λpins s aa H Q I b=>BoolOp_one (h pins s aa H Q I b)
def AK(e:aH X a aP)(f:aH X (.BoolOp .And (b::rest) pos) bi):aH X (.BoolOp .And (a::b::rest) pos) (AH aP bi):=by
 refine λpins s aa H Q I h=>BoolOp_and (aW (e pins s aa H _ I h) λv s1 zz=>?_);let(x,H1,aA,g,d):=zz;let(c,rfl,d):=zB1 d;cases g;refine YD ?_;cases c with|true=>calc f pins s1 aa H1 Q aA d|false=>calc{.aG false,H1,aA,rfl,d}
def wM(e:aH X a aP)(f:aH X (.BoolOp .Or (b::rest) pos) bi):aH X (.BoolOp .Or (a::b::rest) pos) (AI aP bi):=by
 refine λpins s aa H Q I h=>BoolOp_or (aW (e pins s aa H _ I h) λv s1 zz=>?_);let(x,H1,aA,g,d):=zz;let(c,rfl,d):=zB1 d;cases g;refine YD ?_;cases c with|false=>calc f pins s1 aa H1 Q aA d|true=>calc{.aG true,H1,aA,rfl,d}
def I3(d:aH X a aP):aH X (.UnaryOp .Not a pos) (AJ aP):=by refine λpins s aa H Q I h=>UnaryOp_ (aW (d pins s aa H _ I h) λv s1 zz=>?_);let(x,H1,aA,e,b):=zz;let(c,rfl,b):=zB1 b;cases e;calc not_of (YD {.aG (!c),H1,aA,rfl,b})
def AL(t:TT)(aP bi:TE):TE:=λaa H Q=>t aa H λc H1=>if c=true then aP aa H1 Q else bi aa H1 Q
def ts(hc:fY X c g9)(f:aH X a aP)(g:aH X b bi):aH X (.IfExp c a b pos) (AL g9 aP bi):=by
 refine λpins s aa H Q I h=>wpAny_IfExp (aW (hc pins s aa H _ I h) λd s1 zz=>?_);let(H1,aA,e):=zz;cases d with|true=>calc f pins s1 aa H1 Q aA e|false=>calc g pins s1 aa H1 Q aA e
end
def au(K:PySem.W.Frag)(H:am)(a:Addr)(xs:List V):Prop:=
 iV H a (.lst xs)\/
  ∃(o:Obj)(its:Array Value)(n:Nat),K.lookup a=some o/\o.cls=.type "list"/\o.dict=none/\o.data=.seq its n/\its.size<=sizeLine/\a0 xs its.toList
def bJ(K:PySem.W.Frag)(H:am)(a:Addr)(xs:List V):Prop:=
 iV H a (.tup xs)\/
  ∃(o:Obj)(its:Array Value)(n:Nat),K.lookup a=some o/\o.cls=.type "tuple"/\o.data=.seq its n/\its.size<=sizeLine/\a0 xs its.toList
def I4:Value->Option V|.none=>some .bb|.bool b=>some (.aG b)|.int i _=>some (.int i)|.str x _=>some (.str x)|.bytes b _=>some (.fX b)|.float b _=>some (.q0 b)|.ref a=>some (.ref a)|.type n=>some (.ty n)|_=>none
def RelV.abs(r:RelV x u):I4 u=some x:=by
 cases x with|bb=>cases r;rfl|aG _=>cases r;rfl|int _=>let(t,rfl):=r;rfl|str _=>let(t,rfl):=r;rfl|fX _=>let(t,rfl):=r;rfl|q0 _=>let(t,rfl):=r;rfl|ref _=>cases r;rfl|ty _=>cases r;rfl
def RelV.inj(r:RelV x u)(q:RelV y u):x=y:=Xw (r.abs.symm.trans q.abs)
theorem a0.inj:∀{xs ys:List V}{us:List Value},a0 xs us->a0 ys us->xs=ys|_,_,_,.nil,.nil=>rfl|_,_,_,.cons r t,.cons a t'=>by rw[r.inj a,a0.inj t t']
section
variable {X:aR}{pins:List (Addr×Obj)}{aa:St}{H:am}{s:Shared}{a:Addr}{xs ys:List V}
def au.of{K:PySem.W.Frag}(h:H a=some (.lst xs)):au K H a xs:=.inl (.inl h)
def bJ.of{K:PySem.W.Frag}(h:H a=some (.tup xs)):bJ K H a xs:=.inl (.inl h)
def Inv.list(I:Inv X pins aa H s)(h:au X.K H a xs):∃its,a0 xs its/\PlainL s.heap a its.toArray/\xs.length<=sizeLine:=by
 rcases h with h|⟨o,its,n,ak,hc,hd,hs,hz,r⟩;let(z,its,n,r,e):=h.ok I.aS;calc{its,r,{_,n,e,rfl,rfl,rfl},z};refine{its.toList,r,{o,n,I.kIn a o ak,hc,hd,by nofun},?_};have e:=r.length;simp[abI]at e;nofun
def Inv.tuple(I:Inv X pins aa H s)(h:bJ X.K H a xs):∃its,a0 xs its/\IsTup s.heap a its.toArray/\xs.length<=sizeLine:=by
 rcases h with h|⟨o,its,n,ak,hc,hs,hz,r⟩;let(z,its,r,p):=h.ok I.aS;calc⟨its,r,p,z⟩;refine{its.toList,r,{o,I.kIn a o ak,hc,n,by nofun},?_};have e:=r.length;simp[abI]at e;nofun
def Inv.list_inj(I:Inv X pins aa H s)(h:au X.K H a xs)(h':au X.K H a ys):xs=ys:=by
 let(its,r,z,_):=I.list h;let(o,n,e,_,_,d):=z;let(its',c,z0,_):=I.list h';let(dq,f,b,_,_,d'):=z0;rw[e]at b;have:its=its':=by nofun
 subst this;calc r.inj c
end
abbrev aR.wish(X:aR)(E:Value->Shared->Prop):aR:= {X with xe:=E}
abbrev aR.hJ(X:aR):aR:=X.wish λ_ _=>False
def aR.Ok.wish{X:aR}(ok:X.Ok)(E:Value->Shared->Prop):(X.wish E).Ok:=
 ⟨ok.mod,ok.kind,ok.glob,ok.blt,ok.above,ok.inj,ok.has,ok.mW,ok.hd,ok.frames,ok.oJ,ok.oK,ok.bs,ok.hI,ok.mX,ok.lA,ok.funs,ok.iX⟩
def aR.Ok.unwish{X:aR}(ok:(X.wish E).Ok):X.Ok:=
 ⟨ok.mod,ok.kind,ok.glob,ok.blt,ok.above,ok.inj,ok.has,ok.mW,ok.hd,ok.frames,ok.oJ,ok.oK,ok.bs,ok.hI,ok.mX,ok.lA,ok.funs,ok.iX⟩
section
variable {X:aR}{pins:List (Addr×Obj)}{aa:St}{H:am}{s:Shared}{E:Value->Shared->Prop}
def Inv.wish(I:Inv X pins aa H s)E:Inv (X.wish E) pins aa H s:={I.ok.wish E,I.os,I.bare,I.base,I.loc,I.cell,I.free,I.fy,I.pin,I.aS,I.len}
def Inv.unwish(I:Inv (X.wish E) pins aa H s):Inv X pins aa H s:=⟨I.ok.unwish,I.os,I.bare,I.base,I.loc,I.cell,I.free,I.fy,I.pin,I.aS,I.len⟩
def kd.unwish(h:kd (X.wish E) pins D f s'):kd X pins D f s':=by
 cases f with|next=>let(σ',aj,I,q):=h;calc⟨σ',aj,I.unwish,q⟩|brk=>let(σ',aj,I,q):=h;calc⟨σ',aj,I.unwish,q⟩|cont=>let(σ',aj,I,q):=h;calc⟨σ',aj,I.unwish,q⟩|ret u=>let(v,σ',aj,I,r,q):=h;calc⟨v,σ',aj,I.unwish,r,q⟩
def eo.hJ{st:List Stmt}(h:eo X.hJ st t):eo X st t:=λpins s aa H D I a=>Yi (h pins s aa H D (I.wish _) a) (λ_ _ q=>q.unwish) λ_ _ z=>False.elim z
end
section
variable {X:aR}{st:Stmt}{rest:List Stmt}{t u:cy}{e:Expr}{te:TE}{pos:Pos}
def AM:cy:=λD aa H=>D.nx aa H
def eL(t u:cy):cy:=λD aa H=>t {D with nx:=u D} aa H
def bI:eo X [] AM:=λ_ _ aa H _ I h=>Zq ⟨aa,H,I,h⟩
def ax(ae:fz X st t)(ag:eo X rest u):eo X (st::rest) (eL t u):=by
 refine λpins s aa H D I h=>Z7 (aW (ae pins s aa H {D with nx:=u D} I h) λf s1 q=>?_);cases f with|next=>let(σ',aj,a,q):=q;calc ag pins s1 σ' aj D a q|ret v=>calc q|brk=>calc q|cont=>calc q
def az(ae:fz X st t):eo X [st] t:=by
 refine λpins s aa H D I h=>Z7 (aW (ae pins s aa H D I h) λf s1 q=>?_);cases f with|next=>calc Zq q|ret v=>omega|brk=>omega|cont=>omega
def Inv.quiet{aa:St}(I:Inv X pins aa H s):interactive X.env=false:=by simp[interactive,I.ok.kind]
def AN(te:TE):cy:=λD aa H=>te aa H λ_ H1=>D.nx aa H1
def dv(a:aH X e te)(hs:swapsWith e none pos.line X.env=pure false:=by rfl):fz X (.Expr e pos) (AN te):=λpins s aa H D I h=>wpAny_Expr_any (aW (a pins s aa H _ I h) λv s1 zz=>by let(x,H1,aA,c,b):=zz;calc ⟨aa,H1,aA,b⟩) I.quiet hs
def AO(te:TE):cy:=λD aa H=>te aa H D.rt
def aT(a:aH X e te):fz X (.Return (some e) pos) (AO te):=λpins s aa H D I h=>wpAny_Return_some (aW (a pins s aa H _ I h) λv s1 zz=>by let(x,H1,aA,b,c):=zz;calc ⟨x,aa,H1,aA,b,c⟩)
def I5:cy:=λD _ H=>D.rt .bb H
def wN(c:TT)(t u:cy):cy:=λD aa H=>c aa H λb H1=>if b=true then t D aa H1 else u D aa H1
def bB(hc:fY X c i2)(f:eo X a t)(g:eo X b u):fz X (.If c a b pos) (wN i2 t u):=by
 refine λpins s aa H D I h=>wpAny_If (aW (hc pins s aa H _ I h) λd s1 zz=>?_);let(H1,aA,e):=zz;cases d with|true=>calc f pins s1 aa H1 D aA e|false=>calc g pins s1 aa H1 D aA e
end
abbrev eM:=V->St->am->(St->am->Prop)->Prop
abbrev lD:=List V->St->am->(St->am->Prop)->Prop
def ik(X:aR)(a:Expr)(t:eM):Prop:=
 ∀pins s(aa:St)H v u Q,Inv X pins aa H s->RelV v u->t v aa H Q->
  wpAny (model X.prog X.w) X.A (assign a X.env u) (λ_ s'=>∃σ' aj,Inv X pins σ' aj s'/\Q σ' aj) X.xe s
def q4(X:aR)(a:List Expr)(t:lD):Prop:=
 ∀pins s(aa:St)H vs us Q,Inv X pins aa H s->a0 vs us->t vs aa H Q->
  wpAny (model X.prog X.w) X.A (assignInOrder ((assignEach a X.env).map (·.2)) us) (λ_ s'=>∃σ' aj,Inv X pins σ' aj s'/\Q σ' aj) X.xe s
abbrev q5:=V->V->V->am->(am->Prop)->Prop
def wO(X:aR)(t:q5):Prop:=
 ∀pins s(aa:St)H(o i v)(a b u)Q,Inv X pins aa H s->RelV o a->RelV i b->RelV v u->t o i v H Q->
  wpAny (model X.prog X.w) X.A (setItem a b u) (λ_ s'=>∃aj,Inv X pins aa aj s'/\Q aj) X.xe s
abbrev oM:=V->V->am->aE->Prop
def q6(X:aR)(a:Operator)(t:oM):Prop:=
 ∀pins s(aa:St)H(x y)(v u)Q,Inv X pins aa H s->RelV x v->RelV y u->t x y H Q->
  wpAny (model X.prog X.w) X.A (inplaceOp a v u) (en X pins aa Q) X.xe s
section
variable {X:aR}{pos:Pos}
def dg(i:Nat):eM:=λv aa H Q=>Q (aa.set i (some v)) H
def wP(a:X.N.Nodup)(af:X.N[i]? =some x)(b:Loc X.env.scope x)(c:X.fn x=true\/X.env.scope.names.lookup x=some .local:=by first|exact .inl rfl|exact .inr rfl|assumption):ik X (.Name x pos) (dg i):=λpins s aa H v u Q I r h=>wpAny_assign_Name (tn I a af b r (λs' d=>{_,H,d,h}) c)
def ju:lD:=λvs aa H Q=>vs=[]/\Q aa H
def fP(t:eM)(u:lD):lD:=λvs aa H Q=>∃v r,vs=v::r/\t v aa H λσ' aj=>u r σ' aj Q
def ec:q4 X [] ju:=by intro pins s aa H vs us Q I r h;let(e,h):=h;subst e;calc assignInOrder_nil ⟨aa,H,I,h⟩
def b0(ae:ik X e t)(ag:q4 X ay u)
  (hs:(assignEach (e::ay) X.env).map (·.2)=assign e X.env::(assignEach ay X.env).map (·.2):=by rfl):q4 X (e::ay) (fP t u):=by
 intro pins s aa H vs us Q I r h;let(v,f,b,h):=h;subst b;cases r with|cons r c=>rw[hs];refine assignInOrder_cons (aW (ae pins s aa H _ _ _ I r h) λ_ s1 zz=>?_);let(a,H1,aA,d):=zz;calc ag pins s1 a H1 _ _ Q aA c d
def i3(K:PySem.W.Frag)(n:Nat)(t:lD):eM:=λv aa H Q=>∃a xs,v=.ref a/\bJ K H a xs/\xs.length=n/\t xs aa H Q
def I6{k:Nat}(hc:X.calm=true)(h:q4 X ay t)
  (g:(assignEach ay X.env).length=n:=by rfl) (c:(assignEach ay X.env).findIdx? (·.1)=none:=by rfl):ik X (.Tuple ay k pos) (i3 X.K n t):=by
 intro pins s aa H v u Q I r d;let(a,xs,i,j,hl,d):=d;subst i;cases r;let(its,f,l,hz):=I.tuple j;refine assign_Tuple_tuple (I.ok.hd hc) l (by simp[g,<-hl,f.length]) c λh' m=>?_;calc h pins _ aa H xs _ Q (I.kept λb o e=>m b o (Xz (W' e)) e) (by omega) d
def AP(to a:TE)(t:q5):eM:=λv aa H Q=>to aa H λo H1=>a aa H1 λi ai=>t o i v ai λb=>Q aa b
def kg(d:aH X o to)(af:aH X i c)(hs:wO X t)
  (e:∀v,assign (.Subscript o i pos) X.env v=(do
   let a<-holding [v] (eval o X.env);let b<-holding [v,a] (eval i X.env);standAt pos;holding [v,a,b] (setItem a b v);release [v,a,b] []):=by intro _;rfl):ik X (.Subscript o i pos) (AP to c t):=by
 intro pins s aa H v u Q I r h;rw[e];refine wpAny_bind (aaU (aW (d pins s aa H _ I h) λa s1 zz=>?_));let(x,H1,aA,f,g):=zz;refine wpAny_bind (aaU (aW (af pins s1 aa H1 _ aA g) λb j zz=>?_));let(y,ai,k,l,m):=zz;refine wpAny_bind (aad (wpAny_bind (aaU (aW (hs pins j aa ai x y v a b u _ k f l r m) λ_ w zz=>?_))));let(n,p,q):=zz;calc wpAny_release ⟨aa,n,p,q⟩
def q7(te:TE)(g:eM):cy:=λD aa H=>te aa H λx H1=>g x aa H1 D.nx
def kh(a:aH X e te)(b:ik X bK g)(hs:swapsWithSole [bK] e pos.line X.env=pure false:=by rfl)(c:swappedStores [bK] e X.env=pure none:=by rfl)
  (ae:(assignEach [bK] X.env).map (·.2)=[assign bK X.env]:=by rfl):fz X (.Assign [bK] e pos) (q7 te g):=by
 refine λpins s aa H D I h=>wpAny_Assign_stores (aW (a pins s aa H _ I h) λv s1 zz=>?_) hs c;let(x,H1,aA,d,f):=zz;rw[ae];calc aW (b pins s1 aa H1 x v _ aA d f) λ_ i q=>q
def fg(a:X.N.Nodup)(af:X.N[i]? =some x)(b:Loc X.env.scope x)(c:aH X e te)(hs:swapsWith e (some (.Name x pos')) pos.line X.env=pure false:=by rfl)(d:X.fn x=true\/X.env.scope.names.lookup x=some .local:=by first|exact .inl rfl|exact .inr rfl|assumption):
  fz X (.Assign [.Name x pos'] e pos) (q7 te (dg i)):=by
 refine λpins s aa H D I h=>wpAny_Assign_Name (aW (c pins s aa H _ I h) λv s1 zz=>?_) hs;let(y,H1,aA,f,g):=zz;calc tn aA a af b f (λk j=>{_,H1,j,g}) d
def AQ(i:Nat)(te:TE)(a:oM):cy:=λD aa H=>zN0 aa[i]? λx=>te aa H λy H1=>a x y H1 λz ai=>D.nx (aa.set i (some z)) ai
def mZ(o:X.N.Nodup)(af:X.N[i]? =some x)(g:Loc X.env.scope x)(p:aH X e te)(q:q6 X f n)(t:X.fn x=true\/X.env.scope.names.lookup x=some .local:=by first|exact .inl rfl|exact .inr rfl|assumption):
  fz X (.AugAssign (.Name x pos') f e pos) (AQ i te n):=by
 intro pins s aa H D I h;let(v,A,h):=zN1 h;let(m,B,hl):=I.loc;have j:oI X.env.scope x:=by rcases g with k|k;calc .inl k;exact .inr (.inl k)
 let(u,r,l):=hl i x v af A j;refine wpAny_AugAssign_Name ?_;have go:wpAny (model X.prog X.w) X.A (eval e X.env) (λw b=>wpAny (model X.prog X.w) X.A (inplaceOp f u w) (λr d=>wpAny (model X.prog X.w) X.A (storeName X.env x r) (λ_=>kd X pins D .next) X.xe d) X.xe b) X.xe s:=by refine aW (p pins s aa H _ I h) λw s1 zz=>?_;let(y,H1,aA,C,E):=zz;refine aW (q pins s1 aa H1 v y u w _ aA r C E) λz M zz=>?_;let(N,ai,F,G,J):=zz;exact tn F o af g G (λO K=>{_,ai,K,J}) t
 rcases l with⟨ak,L⟩|⟨ak,c,hc,a⟩;calc YP I.ok.kind ak B L go;rcases ak with ak|ak;calc wpAny_loadName_cell I.ok.kind ak hc a go;rcases g with k|k;have:X.env.scope.names.lookup x=some .free:=ak;rw[k]at this;cases this;have:X.env.scope.names.lookup x=some .free:=ak;rw[k]at this;cases this
def AR(to d te:TE)(a:V->V->am->aE->Prop)(c:oM)(b:q5):cy:=λD aa H=>to aa H λo H1=>d aa H1 λi ai=>a o i ai λx e=>te aa e λy f=>c x y f λz g=>b o i z g λh=>D.nx aa h
def wQ(X:aR)(t:V->V->am->aE->Prop):Prop:=
 ∀pins s(aa:St)H(o i)(a b)Q,Inv X pins aa H s->RelV o a->RelV i b->t o i H Q->
  wpAny (model X.prog X.w) X.A (getItem a b) (en X pins aa Q) X.xe s
def wR(q:aH X o to)(af:aH X i j)(r:wQ X b)(t:aH X e te)(u:q6 X k g)(hs:wO X c)
  (w:∀d f a,augStore i d f a=(do holding [a,d,f] (setItem d f a);release [a,d,f] [];pure .next):=by intros;rfl):fz X (.AugAssign (.Subscript o i dN) k e pos) (AR to j te b g c):=by
 refine λpins s aa H D I h=>wpAny_AugAssign_SubscriptAny (aW (q pins s aa H _ I h) λd s1 zz=>?_) w;let(l,H1,aA,m,x):=zz;refine aW (af pins s1 aa H1 _ aA x) λf y zz=>?_;let(n,ai,z,p,A):=zz;refine aW (r pins y aa ai l n d f _ z m p A) λold B zz=>?_;let(C,E,F,G,J):=zz;refine aW (t pins B aa E _ F J) λv K zz=>?_;let(L,M,N,O,P):=zz;refine aW (u pins K aa M C L old v _ N G O P) λa Q zz=>?_;let(R,S,T,U,W):=zz;exact aW (hs pins Q aa S l n R d f a _ T m p U W) λ_ c1 zz=>by let(Y,Z,wS):=zz;calc ⟨aa,Y,Z,wS⟩
def wT(f:Int->Int->Int):oM:=λx y H Q=>zI0 x λi=>zI0 y λj=>Q (.int (f i j)) H
def m1:q6 X .Add (wT λi j=>i+j):=by intro pins s aa H x y v u Q I a b h;let(i,c,z):=zI1 h;let(j,d,q):=zI1 z;subst c;subst d;let(t,rfl):=a;let(t',rfl):=b;calc iadd_int {.int _,H,I.tok _,{_,rfl},q}
def I7:q6 X .Sub (wT λi j=>i-j):=by intro pins s aa H x y v u Q I a b h;let(i,c,z):=zI1 h;let(j,d,q):=zI1 z;subst c;subst d;let(t,rfl):=a;let(t',rfl):=b;calc isub_int {.int _,H,I.tok _,{_,rfl},q}
def wU(c:TT)(bi:cy):cy:=λD aa H=>∃W:Nat->St->am->Prop,(∃m,W m aa H)/\∀m aa H,W m aa H->
 c aa H λb H1=>if b=true then∃N,(∀σ' aj,N σ' aj->∃a,a<m/\W a σ' aj)/\bi {D with nx:=N,ct:=N,bk:=D.nx} aa H1 else D.nx aa H1
def hK(p:PassesOwn (model X.prog X.w) X.A X.env X.xe)(hc:fY X c i2)(t:eo X body bi):fz X (.While c body [] pos) (wU i2 bi):=by
 intro pins s aa H D I h;let(W,z,turn):=h;let(m0,u):=z;refine wpAny_While (codeAny_whileLoop (λn s'=>∃σ' aj,Inv X pins σ' aj s'/\W n σ' aj) ?_ m0 ⟨aa,H,I,u⟩);rintro n s1 ⟨d,H1,aA,w⟩;refine Y3 p (aW (hc pins s1 d H1 _ aA (turn n d H1 w)) λb x zz=>?_);let(ai,q,g):=zz;cases b with
 |true=>
  let(N,r,g):=g;refine Y3 p (aW (t pins x d ai _ q g) λf y i=>?_);cases f with
  |next=>have⟨a,e,j,k⟩:=i;let(l,m,o):=r a e k;calc⟨l,m,a,e,j,o⟩|cont=>have⟨a,e,j,k⟩:=i;let(l,m,o):=r a e k;calc⟨l,m,a,e,j,o⟩|brk=>calc i|ret v=>calc i
 |false=>calc Zq ⟨d,ai,q,g⟩
end
structure fh where
 go:Nat->am->Prop
 hL:Nat->am->V->am->Prop
 stop:Nat->am->Prop
def il(X:aR)(pins:List (Addr×Obj))(H:am)(b:Addr):Prop:=
 H b=none/\b≠X.env.locals/\b∉X.fs/\(b∈X.ex\/X.s_0.heap.objs.size<=b)/\(∀x c,X.env.cells.lookup x=some c->c≠b)/\∀p∈X.pn++pins,p.1≠b
def Inv.fpOk{aa:St}{b:Addr}(I:Inv X pins aa H s)(a:s.heap.objs.size<=b)(d:aj b=none):il X pins aj b:=by refine{d,Xr (Xq I.lt a),I.nofs a,.inr (W1 I.sz a),λx c e z=>?_,λp f z=>?_};let(v,q):=I.cell x c e;calc absurd (Xq q.lt (by nofun)) (Yn _);calc absurd (Xq (W' (I.pin p f).1) (by nofun)) (Yn _)
structure Turn(P:Program)(w:World)(K:PySem.W.Frag)(bK:Expr)(J:fh)(oN:List Addr)(it:Addr)(im:Nat->Heap->Prop):Prop where
 mem:it∈oN
 obj:∀i h,im i h->∀b∈oN,∃o,h.get? b=some o/\∀v,o.data≠.cell v
 keep:∀i h h',im i h->(∀b∈oN,∀o,h.get? b=some o->h'.get? b=some o)->im i h'
 item:∀(X:aR),X.prog=P->X.w=w->X.K=K->X.calm=true->∀(i:Nat)(pins:List (Addr×Obj))(s:Shared)(aa:St)(H:am)(E:Value->Shared->Prop),Inv X pins aa H s->(∀b∈oN,il X pins H b)->im i s.heap->J.go i H->
  wpAny (model P w) X.A (pyNext (.ref it)) (λr s1=>∃u,r=some u/\
   wpAny (model P w) X.A (letOwnedTupleGo bK (.ref it) u) (λ_ s2=>∃x aj,Inv X pins aa aj s2/\RelV x u/\J.hL i H x aj/\im (i+1) s2.heap/\∀b∈oN,aj b=none) E s1) E s
 done:∀(X:aR),X.prog=P->X.w=w->X.K=K->X.calm=true->∀(i:Nat)(pins:List (Addr×Obj))(s:Shared)(aa:St)(H:am)(E:Value->Shared->Prop),Inv X pins aa H s->(∀b∈oN,il X pins H b)->im i s.heap->J.stop i H->
  wpAny (model P w) X.A (pyNext (.ref it)) (λr s1=>r=none/\Inv X pins aa H s1) E s
 self:∀(A:Around)(i:Nat)(s:Shared)(Q:Value->Shared->Prop)(E:Value->Shared->Prop),im i s.heap->Q (.ref it) s->wpAny (model P w) A (pyIter (.ref it)) Q E s
abbrev TI:=St->am->(fh->am->Prop)->Prop
def wV(X:aR)(pins:List (Addr×Obj))(aa:St)(bK:Expr)(R:fh->am->Prop)(a:Value)(c:Shared):Prop:=
 ∃(it:Addr)(d:List Addr)(e:Nat->Heap->Prop)(J:fh)(aj:am),a=.ref it/\Inv X pins aa aj c/\Turn X.prog X.w X.K bK J d it e/\e 0 c.heap/\(∀b∈d,il X pins aj b)/\R J aj
def hM(X:aR)(bK a:Expr)(b:TI):Prop:=
 ∀pins s(aa:St)H R,Inv X pins aa H s->b aa H R->
  wpAny (model X.prog X.w) X.A (eval a X.env) (λv s1=>wpAny (model X.prog X.w) X.A (pyIter v) (wV X pins aa bK R) X.xe s1) X.xe s
def tu(b:s.heap.get? it=some o)(hc:o.cls=.type n)(hd:o.data=.fields vs)
  (c:["enumerate","zip","dict_itemiterator","dict_reverseitemiterator","odict_iterator","itertools.zip_longest","itertools.pairwise"].contains n=false) (a:Q () s):wpAny M A (letOwnedTupleGo bK (.ref it) u) Q E s:=by
 cases bK<;>first
  |exact wpAny_pure a
  |(cases u<;>first
    |exact wpAny_pure a
    |(refine wpAny_bind (wpAny_load b ?_)
      erw[hc,hd];show wpAny M A (if(["enumerate","zip","dict_itemiterator","dict_reverseitemiterator","odict_iterator","itertools.zip_longest","itertools.pairwise"].contains n&&vs[0]? ==some (rawInt _))=true then _ else _) Q E s;rw[WM (by grind)];calc wpAny_pure a))
def oO(K:PySem.W.Frag)(a:Addr):fh:=
 {λi H=>∃xs x,au K H a xs/\xs[i]? =some x,λi H x aj=>aj=H/\∀xs,au K H a xs->xs[i]? =some x,λi H=>∃xs,au K H a xs/\xs.length<=i}
def oP(lo:Int)(n:Nat):fh:={λi _=>i<n,λi H x aj=>aj=H/\x=.int (lo+i),λi _=>n<=i}
def I8{K:PySem.W.Frag}(a it):Turn P w K bK (oO K a) [it] it (λi h=>h.IsListIter it a i) where
 mem:=by simp
 obj:=λi h st b f=>by
  have e:b=it:=by nofun
  subst e;let(o,e,c,d):=st;exact{o,e,λv z=>by rw[d]at z;cases z}
 keep:=λi h h' st k=>st.at λo e=>k it (by simp) o e;item:=by intro X m n q hc i pins s aa H E I j st r;subst m n q;let(xs,x,l,t):=r;let(its,y,p,hz):=I.list l;let(u,G,J):=y.get t;let(A,B,L,C,D,F):=j it (by simp);refine wpAny_pyNext_list_item st p.isList (x:=u) (by nofun) λh' g dR=>?_;let(o,e,c,d):=id g;exact{u,rfl,tu e c d (by decide) {x,H,(I.turned (λb o f e=>(dR.2 b f).trans e) A B C D F),J,{rfl,λys M=>by rwa[I.list_inj M l]},g,λb f=>(j b f).1}}
 done:=by intro X m n q hc i pins s aa H E I j st r;subst m n q;let(xs,l,t):=r;let(its,y,p,hz):=I.list l;let(A,B,L,C,D,F):=j it (by simp);have hl:=y.length;exact wpAny_pyNext_list_end (I.ok.hd hc) st p.isList (by nofun) λh' N=>{rfl,I.turned (λb o f e=>N b o f e) A B C D F}
 self:=λ_ _ _ _ _ st h=>wpAny_pyIter_listiter st h
def I9{K:PySem.W.Frag}it lo n:Turn P w K bK (oP lo n) [it] it (λi h=>IsRangeIter h it (lo+i*1) (n-i) 1) where
 mem:=by simp
 obj:=λi h st b a=>by
  have e:b=it:=by nofun
  subst e;exact{_,st,λv z=>by have x:=z;cases x}
 keep:=λi h h' st k=>k it (by simp) _ st;item:=by intro X f g j hc i pins s aa H E I d st l;subst f g j;let(m,p,y,q,r,u):=d it (by simp);have W:=Walks.range (prog:=X.prog) (w:=X.w) (I.ok.hd hc) it lo 1 n;refine W.item i s _ _ l st λv h' tk A c B=>?_;let(t,rfl):=A;refine{_,rfl,tu c rfl rfl (by decide) {.int (lo+i),H,(I.turned (λb o a e=>B b o (by nofun) e) m p q r u),{t,?_},⟨rfl,rfl⟩,c,λb a=>(d b a).1}};rw[Int.mul_one]
 done:=by intro X f g j hc i pins s aa H E I d st l;let(m,p,y,q,r,u):=d it (by simp);exact wpAny_pyNext_range_end (I.ok.hd hc) st (by have:n<=i:=l;lia) λh' C=>{rfl,I.turned (λb o a e=>C b o a e) m p q r u}
 self:=λ_ _ _ _ _ st h=>wpAny_pyIter_rangeiter st h
section
variable {X:aR}{bK:Expr}
def lE(K:PySem.W.Frag)(bT:TE):TI:=λaa H R=>bT aa H λx H1=>∃a,x=.ref a/\(∃xs,au K H1 a xs)/\R (oO K a) H1
def I_(hl:aH X l bT):hM X bK l (lE X.K bT):=by
 refine λpins s aa H R I h=>aW (hl pins s aa H _ I h) λv s1 zz=>?_;let(x,H1,aA,c,d):=zz;let(a,e,z,q):=d;let(xs,f):=z;subst e;cases c;let(its,i,p,hz):=aA.list f;refine wpAny_pyIter_list p.isList ?_;refine{s1.heap.objs.size,[s1.heap.objs.size],_,_,H1,rfl,aA.kept λb o e=>W4 _ e,I8 a _,{_,Xy _ rfl,rfl,rfl},λb g=>?_,q};have e:b=s1.heap.objs.size:=by nofun
 subst e;calc aA.fpOk (W2 _) (aA.aS.fresh (W2 _))
def I'{aa:St}{lo af:Int}(I:Inv X pins aa H s)(ae: -(2^62)<=lo)(ag:lo<2^62)(a: -(2^62)<=af)(c:af<2^62)
  (q:R (oP lo (af-lo).toNat) H):wpAny (model X.prog X.w) X.A (pyIter (.ref s.heap.objs.size)) (wV X pins aa bK R) E {s with heap:=s.heap.push {cls:=.type "range",data:=.fields #[.int lo t,.int af u,.int 1 v]},toks:=tk}:=by
 refine wpAny_pyIter_range (IsRange.new ..) (small_one ae ag a c) ?_;have aA:Inv X pins aa H {s with heap:=s.heap.push {cls:=.type "range",data:=.fields #[.int lo t,.int af u,.int 1 v]},toks:=tk}:=I.kept λb o e=>W4 _ e;refine{(s.heap.push {cls:=.type "range",data:=.fields #[.int lo t,.int af u,.int 1 v]}).objs.size,[(s.heap.push {cls:=.type "range",data:=.fields #[.int lo t,.int af u,.int 1 v]}).objs.size],_,_,H,rfl,
  aA.kept (t':=tk) λb o e=>W4 _ e,I9 _ lo (af-lo).toNat,?_,λb d=>?_,q}
 have f:lo+((0:Nat):Int)*1=lo:=by simp
 have g:(((af-lo).toNat:Nat):Int)-((0:Nat):Int)=Builtin.Range.rangeSize lo af 1:=by rw[rangeSize_one];split<;>lia
 show IsRangeIter _ _ (lo+((0:Nat):Int)*1) ((((af-lo).toNat:Nat):Int)-((0:Nat):Int)) 1;erw[f,g];calc Xy _ rfl;have e:b=(s.heap.push {cls:=.type "range",data:=.fields #[.int lo t,.int af u,.int 1 v]}).objs.size:=by nofun
 subst e;calc aA.fpOk (W2 _) (aA.aS.fresh (W2 _))
def tv(aP:ci):TI:=λaa H R=>aP aa H λvs H1=>∃j,vs=[.int j]/\ -(2^62)<=j/\j<2^62/\R (oP 0 j.toNat) H1
def m2(c:d2 X "range")(d:X.mg "range"=none)(f:dF X [a] aP)(hs:starEach [a] X.env=[(false,eval a X.env)]:=by rfl):hM X bK (.Call (.Name "range" p) [a] [] pos) (tv aP):=by
 refine λpins s aa H R I h=>Call_ (oL I c d boot_range (Yv (aW (f pos pins s aa H _ I h) λus s1 zz=>?_) hs rfl));let(vs,H1,aA,g,b):=zz;let(j,e,b,i,q):=b;subst e;cases g with|cons r k=>cases k;let(t,rfl):=r;calc call_range_1 (I' aA (by nofun) (by nofun) b i (by nofun))
def oQ(c:TI)(g:eM)(bi:cy):cy:=λD aa H=>c aa H λJ H1=>∃W:Nat->Nat->St->am->Prop,(∃m,W 0 m aa H1)/\∀i m aa H,W i m aa H->
 (J.stop i H/\D.nx aa H)\/(J.go i H/\∃N,(∀σ' aj,N σ' aj->∃b,b<m/\W (i+1) b σ' aj)/\∀x aj,J.hL i H x aj->g x aa aj λa ai=>bi {D with nx:=N,ct:=N,bk:=D.nx} a ai)
def q8(a:List Addr)(h:Heap):List (Addr×Obj):=a.filterMap λb=>(h.get? b).map λo=>(b,o)
def wW(c:b∈a)(e:h.get? b=some o):(b,o)∈q8 a h:=Yu.mpr {b,c,by nofun}
def Ja(c:p∈q8 a h):p.1∈a/\h.get? p.1=some p.2:=by
 let(b,d,e):=Yu.mp c;cases q:h.get? b with|none=>nofun|some o=>grind
def Inv.pinned{aa:St}(I:Inv X pins aa H s)(g:∀b∈a,il X pins H b)(h:∀b∈a,∃o,s.heap.get? b=some o/\∀v,o.data≠.cell v):Inv X (pins++q8 a s.heap) aa H s:=
 I.pins_of λp i=>(Xc.mp i).elim (λz=>I.pin p (WZ _ z)) λz=>by let(c,e):=Ja z;let(j,k,l,_):=g p.1 c;let(o,f,d):=h p.1 c;rw[e]at f;cases f;calc⟨e,j,k,l,d⟩
def Inv.unpinned{aa:St}(I:Inv X (pins++pl) aa H s):Inv X pins aa H s:=I.pins_of λp a=>I.pin p (WZ _ (Xa _ a))
def dS(y:PassesOwn (model X.prog X.w) X.A X.env X.xe)(hc:X.calm=true)(af:hM X bK c P)(Z:ik X bK g)(j:eo X body bi)
  (hs:∀x,foldedSetIterable c X.env x=pure x:=by intro _;rfl):fz X (.For bK c body [] pos) (oQ P g bi):=by
 refine λpins s aa H D I h=>wpAny_For (aW (af pins s aa H _ I h) λv s1 ae=>aW ae λJb s2 ag=>?_) hs;let(it,z,Q,J,ai,e,oR,T,F,R,W,z0,turn):=ag;let(m0,jv):=z0;subst e;have k:∀{aj:am},(∀b∈z,aj b=none)->∀b∈z,il X pins aj b:=λc0 b j=>{c0 b j,(R b j).2};refine codeAny_forLoop_any (λn s'=>∃i σ' aj,Inv X pins σ' aj s'/\Q i s'.heap/\(∀b∈z,aj b=none)/\W i n σ' aj) ?_ m0 {0,aa,ai,oR,F,λb j=>(R b j).1,jv};rintro n S ⟨i,l,E,U,A,B,Jc⟩;rcases turn i n l E Jc with⟨stop,Jd⟩|⟨go,N,e2,step⟩;refine Y3 y (aW (T.done X rfl rfl rfl hc i pins S l E X.xe U (k B) A stop) λr s4 zz=>?_);let(G,oS):=zz;subst G;calc Zq ⟨l,E,oS,Jd⟩;refine Y3 y (aW (T.item X rfl rfl rfl hc i pins S l E X.xe U (k B) A go) λr s4 zz=>?_);let(u,G,bP):=zz;subst G;refine Y3 y (aW bP λ_ V zz=>?_);let(x,Y,ki,r5,Je,w,K):=zz;have L:=ki.pinned (k K) (T.obj _ _ w);refine Y3 y (aW (Z _ V l Y x u _ L r5 (step x Y Je)) λ_ c1 zz=>?_);let(M,d7,wX,wS):=zz;refine Y3 y (aW (j _ c1 M d7 _ wX wS) λf O t=>?_);have again:∀{a:St}{p:am},Inv X (pins++q8 z V.heap) a p O->N a p->∃m,m<n/\∃i σ' aj,Inv X pins σ' aj O/\Q i O.heap/\(∀b∈z,aj b=none)/\W i m σ' aj:=λ{a p}q C=>by let(h9,hm,Jf):=e2 a p C;refine{h9,hm,i+1,a,p,q.unpinned,T.keep _ _ _ w λb j o e=>(q.pin (b,o) (WZ _ (WZ _ (wW j e)))).1,λb j=>?_,Jf};let(o,e,d):=T.obj _ _ w b j;exact(q.pin (b,o) (WZ _ (WZ _ (wW j e)))).2.1
 cases f with|next=>let(a,p,q,C):=t;calc again q C|cont=>let(a,p,q,C):=t;calc again q C|brk=>let(a,p,q,t):=t;calc⟨a,p,q.unpinned,t⟩|ret v=>let(Jg,a,p,q,r7,t):=t;calc⟨Jg,a,p,q.unpinned,r7,t⟩
end
abbrev dr:=V->V->am->aE->Prop
def cI(X:aR)(f:Value->Value->Sem Value)(r:dr):Prop:=
 ∀pins s(aa:St)H(x y)(v u)Q,Inv X pins aa H s->RelV x v->RelV y u->r x y H Q->
  wpAny (model X.prog X.w) X.A (f v u) (en X pins aa Q) X.xe s
def wY(X:aR)(f:Value->Sem Value)(r:V->am->aE->Prop):Prop:=
 ∀pins s(aa:St)H x v Q,Inv X pins aa H s->RelV x v->r x H Q->
  wpAny (model X.prog X.w) X.A (f v) (en X pins aa Q) X.xe s
def dT(X:aR)(f:Value)(r:List V->am->aE->Prop):Prop:=
 ∀pins s(aa:St)H xs us Q,Inv X pins aa H s->a0 xs us->r xs H Q->
  wpAny (model X.prog X.w) X.A (call f us) (en X pins aa Q) X.xe s
def m3(r:dr)(aP bi:TE):TE:=λaa H Q=>aP aa H λx H1=>bi aa H1 λy ai=>r x y ai Q
def AS(r:V->am->aE->Prop)(aP:TE):TE:=λaa H Q=>aP aa H λx H1=>r x H1 Q
def q9(C:Int->Int->Prop)(g:Int->Int->V):dr:=λx y H Q=>zI0 x λi=>zI0 y λj=>C i j/\Q (g i j) H
def kj(g:Int->Int->V):dr:=λx y H Q=>zI0 x λi=>zI0 y λj=>Q (g i j) H
def wZ(g:Int->V):V->am->aE->Prop:=λx H Q=>zI0 x λi=>Q (g i) H
section
variable {X:aR}{a b c:Expr}{aP bi i2:TE}{pos:Pos}
def w0(g:aH X a aP)(i:aH X b bi){aa:St}{R:V->V->am->Prop}(I:Inv X pins aa H s)
  (h:aP aa H λx H1=>bi aa H1 λy ai=>R x y ai) {Q:Value->Shared->Prop}{f:Value->Value->Sem Value}
  (j:∀v u e x y ai,Inv X pins aa ai e->RelV x v->RelV y u->R x y ai->wpAny (model X.prog X.w) X.A (f v u) Q X.xe e):
  wpAny (model X.prog X.w) X.A (eval a X.env) (λv c=>wpAny (model X.prog X.w) X.A (eval b X.env) (λu d=>wpAny (model X.prog X.w) X.A (f v u) Q X.xe d) X.xe c) X.xe s:=by
 refine aW (g pins s aa H _ I h) λv s1 zz=>?_;let(x,H1,aA,k,l):=zz;refine aW (i pins s1 aa H1 _ aA l) λu e zz=>?_;let(y,ai,m,n,o):=zz;calc j v u e x y ai m k n o
def bl{c:Operator}(d:cI X (binaryOp c) r)(e:aH X a aP)(f:aH X b bi):aH X (.BinOp a c b pos) (m3 r aP bi):=λpins s aa H Q I h=>wpAny_BinOp (w0 e f I h λv u g x y ai i j k q=>d pins g aa ai x y v u Q i j k q)
def q_{b:UnaryOp}(c:wY X (unaryOp b) r)(d:aH X a aP):aH X (.UnaryOp b a pos) (AS r aP):=λpins s aa H Q I h=>UnaryOp_ (aW (d pins s aa H _ I h) λv s1 zz=>by let(x,H1,aA,e,f):=zz;calc c pins s1 aa H1 x v Q aA e f)
def w1{g:Int->Int->Int}
  (rule:∀(i j:Int)(t u:Tok)(s:Shared)(Q:Value->Shared->Prop)(E:Value->Shared->Prop),C i j->Q (.int (g i j) s.toks) {s with toks:=s.toks+1}->wpAny (model X.prog X.w) X.A (f (.int i t) (.int j u)) Q E s):
  cI X f (q9 C λi j=>.int (g i j)):=by
 intro pins s aa H x y v u Q I a b h;let(i,rfl,z):=zI1 h;let(j,rfl,hc,q):=zI1 z;let(t,rfl):=a;let(t',rfl):=b;calc rule i j t t' s _ _ hc {.int (g i j),H,I.tok _,{_,rfl},q}
def AT{g:Int->Int->Int}
  (rule:∀(i j:Int)(t u:Tok)(s:Shared)(Q:Value->Shared->Prop)(E:Value->Shared->Prop),Q (.int (g i j) s.toks) {s with toks:=s.toks+1}->wpAny (model X.prog X.w) X.A (f (.int i t) (.int j u)) Q E s):
  cI X f (kj λi j=>.int (g i j)):=by
 intro pins s aa H x y v u Q I a b h;let(i,rfl,z):=zI1 h;let(j,rfl,q):=zI1 z;let(t,rfl):=a;let(t',rfl):=b;calc rule i j t t' s _ _ {.int (g i j),H,I.tok _,{_,rfl},q}
def tw{g:Int->Int->Bool}
  (rule:∀(i j:Int)(t u:Tok)(s:Shared)(Q:Value->Shared->Prop)(E:Value->Shared->Prop),Q (.bool (g i j)) s->wpAny (model X.prog X.w) X.A (f (.int i t) (.int j u)) Q E s):
  cI X f (kj λi j=>.aG (g i j)):=by
 intro pins s aa H x y v u Q I a b h;let(i,rfl,z):=zI1 h;let(j,rfl,q):=zI1 z;let(t,rfl):=a;let(t',rfl):=b;calc rule i j t t' s _ _ {.aG (g i j),H,I,rfl,q}
def AU(i j:Int):Prop:=(-(2^64)<i/\i<2^64)\/(-(2^64)<j/\j<2^64)
def AU.ok(h:AU i j):IntMulOk i j:=by
 rcases h with⟨ae,ag⟩|⟨ae,ag⟩;calc .of_left (intBits_le_64 ae ag);calc .of_right (intBits_le_64 ae ag)
def Jh:cI X (binaryOp .Add) (kj λi j=>.int (i+j)):=AT λ_ _ _ _ _ _ _ q=>add_int q
def lF:cI X (binaryOp .Sub) (kj λi j=>.int (i-j)):=AT λ_ _ _ _ _ _ _ q=>sub_int q
def Ji:cI X (binaryOp .Mod) (q9 (λ_ j=>0<j) λi j=>.int (i % j)):=w1 λi j _ _ _ _ _ hc q=>by calc mod_int' (by lia) (by grind)
def Jj{g:Int->Int}
  (rule:∀(i:Int)(t:Tok)(s:Shared)(Q:Value->Shared->Prop)(E:Value->Shared->Prop),Q (.int (g i) s.toks) {s with toks:=s.toks+1}->wpAny (model X.prog X.w) X.A (f (.int i t)) Q E s):
  wY X f (wZ λi=>.int (g i)):=by
 intro pins s aa H x v Q I a h;let(i,rfl,q):=zI1 h;let(t,rfl):=a;calc rule i t s _ _ {.int (g i),H,I.tok _,{_,rfl},q}
def q':wY X (unaryOp .USub) (wZ λi=>.int (-i)):=Jj λ_ _ _ _ _ q=>neg_int q
end
def AV:V->V->Bool|.bb,.bb=>true|.bb,.int _=>true|.int _,.bb=>true|.bb,.aG _=>true|.aG _,.bb=>true|.bb,.str _=>true|.str _,.bb=>true|.int _,.int _=>true|.aG _,.aG _=>true|.str _,.str _=>true|.fX _,.fX _=>true|.int _,.str _=>true|.str _,.int _=>true|.aG _,.str _=>true|.str _,.aG _=>true|_,_=>false
def Jk:dr:=λx y H Q=>AV x y=true/\Q (.aG (decide (x=y))) H
def Jl:dr:=λx y H Q=>AV x y=true/\Q (.aG (!decide (x=y))) H
def ra:decide (V.int i=V.int j)=(i==j):=by grind
def AW:decide (V.aG i=V.aG j)=(i==j):=by grind
def rb:decide (V.str i=V.str j)=(i==j):=by grind
def AX:decide (V.fX i=V.fX j)=(i.toList==j.toList):=by rw[Xu];cases i;cases j;simp
section
variable {X:aR}{a b c:Expr}{aP bi i2:TE}{pos:Pos}
def dw{aa:St}{k a:Bool}(I:Inv X pins aa H s)(q:Q (.aG k) H)(e:k=a):en X pins aa Q (.bool a) s:=by subst e;calc{.aG k,H,I,rfl,q}
def AY:cI X (compareOp .Eq) Jk:=by
 intro pins s aa H x y v u Q I b a h;let(hs,q):=h;cases x with
 |bb=>
  cases b;cases y with
  |bb=>cases a;calc PySem.EqNone.eq_none_none (dw I q (by simp))|aG j=>cases a;calc PySem.EqNone.eq_none_bool (dw I q (by simp))
  |int j=>let(t',rfl):=a;calc PySem.EqNone.eq_none_int (dw I q (by simp))
  |str j=>let(t',rfl):=a;calc PySem.EqNone.eq_none_str (dw I q (by simp))
  |_=>calc absurd (show false=true from hs) W9
 |aG i=>
  cases b;cases y with
  |bb=>cases a;calc PySem.EqNone.eq_bool_none (dw I q (by simp))
  |aG j=>cases a;calc eq_bool (dw I q AW)
  |str j=>let(t',rfl):=a;calc PySem.EqMixed.eq_bool_str (dw I q (by simp))
  |_=>calc absurd (show false=true from hs) W9
 |int i=>
  let(t,rfl):=b;cases y with
  |bb=>cases a;calc PySem.EqNone.eq_int_none (dw I q (by simp))
  |int j=>let(t',rfl):=a;calc eq_int (dw I q ra)
  |str j=>let(t',rfl):=a;calc PySem.EqMixed.eq_int_str (dw I q (by simp))
  |_=>calc absurd (show false=true from hs) W9
 |str i=>
  let(t,rfl):=b;cases y with
  |bb=>cases a;calc PySem.EqNone.eq_str_none (dw I q (by simp))
  |aG j=>cases a;calc PySem.EqMixed.eq_str_bool (dw I q (by simp))
  |int j=>let(t',rfl):=a;calc PySem.EqMixed.eq_str_int (dw I q (by simp))
  |str j=>let(t',rfl):=a;calc eq_str (dw I q rb)
  |_=>calc absurd (show false=true from hs) W9
 |fX i=>
  let(t,rfl):=b;cases y with
  |fX j=>let(t',rfl):=a;calc PySem.W.eq_bytes (dw I q AX)
  |_=>calc absurd (show false=true from hs) W9
 |_=>cases y<;>calc absurd (show false=true from hs) W9
def AZ:cI X (compareOp .NotEq) Jl:=by
 intro pins s aa H x y v u Q I b a h;let(hs,q):=h;cases x with
 |bb=>
  cases b;cases y with
  |bb=>cases a;calc PySem.EqNone.ne_none_none (dw I q (by simp))|aG j=>cases a;calc PySem.EqNone.ne_none_bool (dw I q (by simp))
  |int j=>let(t',rfl):=a;calc PySem.EqNone.ne_none_int (dw I q (by simp))
  |str j=>let(t',rfl):=a;calc PySem.EqNone.ne_none_str (dw I q (by simp))
  |_=>calc absurd (show false=true from hs) W9
 |aG i=>
  cases b;cases y with
  |bb=>cases a;calc PySem.EqNone.ne_bool_none (dw I q (by simp))
  |aG j=>cases a;calc ne_bool (dw I q (congrArg not AW))
  |str j=>let(t',rfl):=a;calc PySem.EqMixed.ne_bool_str (dw I q (by simp))
  |_=>calc absurd (show false=true from hs) W9
 |int i=>
  let(t,rfl):=b;cases y with
  |bb=>cases a;calc PySem.EqNone.ne_int_none (dw I q (by simp))
  |int j=>let(t',rfl):=a;calc ne_int (dw I q (congrArg not ra))
  |str j=>let(t',rfl):=a;calc PySem.EqMixed.ne_int_str (dw I q (by simp))
  |_=>calc absurd (show false=true from hs) W9
 |str i=>
  let(t,rfl):=b;cases y with
  |bb=>cases a;calc PySem.EqNone.ne_str_none (dw I q (by simp))
  |aG j=>cases a;calc PySem.EqMixed.ne_str_bool (dw I q (by simp))
  |int j=>let(t',rfl):=a;calc PySem.EqMixed.ne_str_int (dw I q (by simp))
  |str j=>let(t',rfl):=a;calc ne_str (dw I q (congrArg not rb))
  |_=>calc absurd (show false=true from hs) W9
 |fX i=>
  let(t,rfl):=b;cases y with
  |fX j=>let(t',rfl):=a;calc PySem.W.ne_bytes (dw I q (congrArg not AX))
  |_=>calc absurd (show false=true from hs) W9
 |_=>cases y<;>calc absurd (show false=true from hs) W9
def io:cI X (compareOp .Lt) (kj λi j=>.aG (decide (i<j))):=tw λ_ _ _ _ _ _ _ q=>lt_int q
def oT:cI X (compareOp .LtE) (kj λi j=>.aG (decide (i<=j))):=tw λ_ _ _ _ _ _ _ q=>le_int q
def hN:cI X (compareOp .Gt) (kj λi j=>.aG (decide (j<i))):=tw λ_ _ _ _ _ _ _ q=>gt_int q
def A0:cI X (compareOp .GtE) (kj λi j=>.aG (decide (j<=i))):=tw λ_ _ _ _ _ _ _ q=>ge_int q
def bZ b{a:CmpOp}(h:a≠.In:=by decide)(ag:a≠.NotIn:=by decide):behindInMarks a b=false:=by
 have c:(a==CmpOp.In)=false:=by nofun<;>first|rfl|exact absurd rfl h
 have d:(a==CmpOp.NotIn)=false:=by nofun<;>first|rfl|exact absurd rfl ag
 cases b<;>simp[behindInMarks,c,d]
def kk{c:CmpOp}(d:cI X (compareOp c) r)(e:aH X a aP)(f:aH X b bi)(g:behindInMarks c b=false):aH X (.Compare a [c] [b] pos) (m3 r aP bi):=λpins s aa H Q I h=>wpAny_Compare1 (w0 e f I h λv u i x y ai j k l q=>d pins i aa ai x y v u Q j k l q) g
def A1(t:TE):TT:=λaa H Q=>t aa H λx aj=>zB0 x λk=>Q k aj
def b1(f:cI X (compareOp d) r)(g:aH X a aP)(i:aH X b bi)(j:behindInMarks d b=false):fY X (.Compare a [d] [b] pos) (A1 (m3 r aP bi)):=by
 refine λpins s aa H Q I h=>wpAny_isTrue_Compare1 (aW (g pins s aa H _ I h) λv s1⟨x,H1,aA,l,m⟩=>aW (i pins s1 aa H1 _ aA m) λu n⟨y,ai,o,p,q⟩=>aW (f pins n aa ai x y v u _ o l p q) λc C zz=>?_) j;let(z,t,w,A,B):=zz;let(k,e,B):=zB1 B;subst e;cases A;calc YD ⟨t,w,B⟩
def A2(r b:dr)(aP bi i2:TE):TE:=λaa H Q=>aP aa H λx H1=>bi aa H1 λy ai=>r x y ai λz a=>zB0 z λk=>if k=true then i2 aa a λc d=>b y c d Q else Q (.aG false) a
def w2(p:cI X (compareOp g) r)(i:cI X (compareOp f) j)(q:aH X a aP)(t:aH X b bi)(hc:aH X c i2)
  (w:lastMarks [g,f] [b,c]=false:=by with_unfolding_all rfl):aH X (.Compare a [g,f] [b,c] pos) (A2 r j aP bi i2):=by
 refine λpins s aa H Q I h=>Compare_chain (aW (q pins s aa H _ I h) λv s1⟨x,H1,aA,A,B⟩=>chain_link (aW (t pins s1 aa H1 _ aA B) λu C⟨y,ai,D,l,E⟩=>aW (p pins C aa ai x y v u _ D A l E) λd F zz=>?_)) w;let(z,m,n,G,o):=zz;let(k,e,o):=zB1 o;subst e;cases G;refine YD ?_;cases k with|false=>calc ite_ff {.aG false,m,n,rfl,o}|true=>exact ite_tt (chain_last (aW (hc pins F aa m _ n o) λJ K zz=>by let(L,M,N,O,P):=zz;calc i pins K aa M y L u J Q N l O P))
def oU:sizeLine<2^63:=by decide
def Jm:cI X (binaryOp .Add) (λx y H Q=>∃i j,x=.str i/\y=.str j/\i.length+j.length<=sizeLine/\Q (.str (i++j)) H):=by intro pins s aa H x y v u Q I a b h;let(i,j,rfl,rfl,hz,q):=h;let(t,rfl):=a;let(t',rfl):=b;calc add_str (λt' tk=>{.str (i++j),H,I.tok _,{_,rfl},q}) hz
def Jn:cI X (inplaceOp .Add) (λx y H Q=>∃i j,x=.str i/\y=.str j/\i.length+j.length<=sizeLine/\Q (.str (i++j)) H):=by intro pins s aa H x y v u Q I a b h;let(i,j,rfl,rfl,hz,q):=h;let(t,rfl):=a;let(t',rfl):=b;calc iadd_str (λt' tk=>{.str (i++j),H,I.tok _,{_,rfl},q}) hz
def vals1(r:a0 [x] us):∃u,us=[u]/\RelV x u:=by
 cases r with|cons a b=>cases b;calc{_,rfl,a}
def A3:dT X (.builtin "abs") (λxs H Q=>∃i,xs=[.int i]/\Q (.int (if i<0 then -i else i)) H):=by intro pins s aa H xs us Q I r h;let(i,rfl,q):=h;let(u,rfl,t,rfl):=vals1 r;calc call_abs_int λu tk=>{.int (if i<0 then -i else i),H,I.tok _,{_,rfl},q}
def Jo:dT X (.type "str") (λxs H Q=>∃i,xs=[.int i]/\i.natAbs.log2<1920/\Q (.str (toString i)) H):=by intro pins s aa H xs us Q I r h;let(i,rfl,hz,q):=h;let(u,rfl,t,rfl):=vals1 r;calc PySem.P.str_of_int hz {.str _,H,I.tok _,{_,rfl},q}
def Jp:dT X (.builtin "ord") (λxs H Q=>∃x,xs=[.str x]/\x.length=1/\Q (.int (x.cps.getD 0 0)) H):=by intro pins s aa H xs us Q I r h;let(x,rfl,hz,q):=h;let(u,rfl,t,rfl):=vals1 r;calc ord_of_one hz {.int _,H,I.tok _,{_,rfl},q}
end
structure m4(h:Heap)(x ao C:Addr)(cC:Str->Option Value):Prop where
 obj:h.get? x=some (instObj C ao)
 ns:h.Ns1 ao cC
 ne:ao≠x
def A4{h:Heap}(n:h.Ns1 ao cC):∃cD,h.get? ao=some cD/\∀name,lookIn name cD=some (cC name):=by
 let(o,ay,i,c,hd,ak,_,d):=n;refine{o,c,λname=>?_};have e:=d name;unfold nsFind findBy at e;rw[<-aaE]at e;unfold lookIn;rw[hd];dsimp only;split;nofun;rename_i q;rw[q]at e;have a:ay.toList.any (·.refKey)=false:=by rw[List.any_eq_false];intro y f;let(z,t,b):=ak y (abx.mp f);simp[DictEntry.refKey,b]
 have g:¬ay.toList.any (·.refKey)=true:=by rw[a];exact W9
 rw[WM g];calc congrArg some e
def m4.look(I:m4 h x ao C cC):∃cD,PySem.W.InstAt h x (instObj C ao) C (some cD)/\∀name,lookIn name cD=some (cC name):=
 have⟨cD,cF,hl⟩:=A4 I.ns;{cD,⟨I.obj,rfl,rfl,cF⟩,hl}
section
variable {prog:Program}{w:World}{A:Around}{E:Value->Shared->Prop}{s:Shared}{K:PySem.W.Frag}{x ao C f:Addr}{cC:Str->Option Value}{name:Str}{v:Value}
def get_map(X:K.In s.heap)(I:m4 s.heap x ao C cC)(c:plainGet K C name=true)(aI:hasDictIn K C=true)
  (d:findIn K (.ref C) name=some none) (e:cC name=some v) (b:handedIn v=true) (h:Q v {s with toks:=s.toks+1}):
  wpAny (model prog w) A (getAttr (.ref x) name a) Q E s:=by
 let(cD,J,hl):=I.look;calc PySem.W.get_value X J (aap c).1 (abJ aI d rfl (by nofun)) b h
def Jq(X:K.In s.heap)(I:m4 s.heap x ao C cC)(a:plainGet K C name=true)
  (b:findIn K (.ref C) name=some (some (.ref f))) (c:isFn K (.ref f)=true) (d:cC name=none) (h:Q (.ref f,[.ref x]) s):
  wpAny (model prog w) A (getMethod (.ref x) name pl) Q E s:=by
 let(cD,J,hl):=I.look;exact PySem.W.method_fn X J (aap a).1 (aap a).2 b (YB.mp c) (by show(lookIn name cD).map (·.isSome)=some false;rw[hl,d];rfl) h
def Jr(X:K.In s.heap)(I:m4 s.heap x ao C cC)
  (hs:findIn K (.ref C) "__setattr__"=some (some (.builtin "object.__setattr__"))) (j:plainOver K C=true) (k:takerIn K C name=some none) (aI:hasDictIn K C=true)
  (l:PySem.Within cC ns) (hsz:ns.length<=sizeLine)
  (h:∀h',m4 h' x ao C (λy=>if y=name then some v else cC y)->Heap.SameBut ao s.heap h'->Q () {s with heap:=h',toks:=s.toks+2}):
  wpAny (model prog w) A (setAttr (.ref x) name v) Q E s:=by
 let(cD,J,hl):=I.look;refine PySem.W.set_plain X J hs (PySem.W.osa_open X J j k λb=>?_);let(p,hc,e):=PySem.W.any_some aI;refine wpAny_bind (wpAny_pure (wpAny_bind (wpAny_bind (wpAny_loadPart I.obj (wpAny_bind (Looks.here (PySem.W.looks_clsIn X hc) ?_))))));rw[e];refine wpAny_pure (wpAny_bind (wpAny_pure (wpAny_bind ?_)));refine wpAny_nsSet1 I.ns λh' c d=>?_;let(q,n,o,f,g,i):=c.count (abO name v l);refine wpAny_bind (wpAny_lookBehind f (by rw[g];calc pastItsLine_dict (W1 i (by nofun))) ?_);calc wpAny_pure (h _ {(d.2 _ (XE I.ne)).trans I.obj,c,I.ne} d)
def Js(X:K.In s.heap)(b:makesIn K C=true)
  (af:findIn K (.ref C) "__init__"=some (some (.ref f))) (c:typeIn K (.ref f)=some (.type "function"))
  (h:codeAny (model prog w) (A.under (.builtin "type.__call__" {.ref C::vs,a})) (.call (.ref f) {.ref (s.heap.objs.size+1)::vs,a}) (PySem.W.InitBack (s.heap.objs.size+1) R)
   {s with heap:=(s.heap.push emptyDict).push (instObj C s.heap.objs.size)}):
  codeAny (model prog w) A (.call (.ref C) ⟨vs,a⟩) R s:=by
 calc PySem.W.make_core (PySem.W.makes_of X b) (aaa X af) (λself=>PySem.W.bind_fn X self c) (.inl rfl) h
end
def fQ(f:Str)(v:V):List (Str×V)->List (Str×V)|[]=>[(f,v)]|(g,x)::r=>if g=f then(g,v)::r else(g,x)::fQ f v r
theorem A5(f g)v:∀fs,(fQ f v fs).lookup g=if g=f then some v else fs.lookup g|[]=>by show List.lookup g [(f,v)]=_;by_cases h:g=f;grind;grind|(k,x)::r=>by have b:=A5 f g v r;rw[show fQ f v ((k,x)::r)=(if k=f then(k,v)::r else(k,x)::fQ f v r)from rfl];by_cases ak:k=f;grind;grind
theorem w3 f v:∀fs,f∈(fQ f v fs).map (·.1)/\∀g,g∈fs.map (·.1)->g∈(fQ f v fs).map (·.1)|[]=>{by simp[fQ],λg h=>by simp at h}|(k,x)::r=>by let(a,bp):=w3 f v r;rw[show fQ f v ((k,x)::r)=(if k=f then(k,v)::r else(k,x)::fQ f v r)from rfl];by_cases ak:k=f;grind;grind
theorem A6 f v:∀fs,(fQ f v fs).length<=fs.length+1|[]=>by simp[fQ]|(k,x)::r=>by have a:=A6 f v r;rw[show fQ f v ((k,x)::r)=(if k=f then(k,v)::r else(k,x)::fQ f v r)from rfl];by_cases ak:k=f;nofun;nofun
def eb.some_of(r:eb (some v) o):∃u,o=some u/\RelV v u:=by
 cases o with|none=>calc(show False from r).elim|some u=>calc⟨u,rfl,r⟩
def eb.none_of(r:eb none o):o=none:=by
 cases o with|none=>rfl|some u=>calc(show False from r).elim
def A7(r:RelV v u):handedIn u=true:=by
 cases v with|bb=>cases(show u=Value.none from r);rfl|aG b=>cases(show u=Value.bool b from r);rfl|int i=>let(t,e):=(show∃t,u=Value.int i t from r);cases e;rfl|str x=>let(t,e):=(show∃t,u=Value.str x t from r);cases e;rfl|fX b=>let(t,e):=(show∃t,u=Value.bytes b t from r);cases e;rfl|q0 b=>let(t,e):=(show∃t,u=Value.float b t from r);cases e;rfl|ref a=>cases(show u=Value.ref a from r);rfl|ty n=>cases(show u=Value.type n from r);rfl
section
variable {P:Program}{w:World}{H aj:am}{h h':Heap}{a C ao:Addr}{fs iW:List (Str×V)}
def w4(aS:cu P w H h)(e:H a=some (.ins C ao fs)):∃cC,m4 h a ao C cC/\(∀f,eb (fs.lookup f) (cC f))/\PySem.Within cC (fs.map (·.1))/\fs.length<=1000/\H ao=some (.own a):=by let(d,z,ne,b,cC,n,r,q):=(show cX P w H h a (.ins C ao fs)from aS a _ e);calc{cC,⟨b,n,ne⟩,r,q,z,d}
end
structure g_(K:PySem.W.Frag)(C:Addr):Prop where
 jw:plainGet K C Str.empty=true
 hd:hasDictIn K C=true
 po:plainOver K C=true
 jx:findIn K (.ref C) "__setattr__"=some (some (.builtin "object.__setattr__"))
def g_.get{K:PySem.W.Frag}(c:g_ K C)f:plainGet K C f=true:=c.jw
def kl(K:PySem.W.Frag)(C:Addr)(f:Str):Prop:=findIn K (.ref C) f=some none
def kl.taker{K:PySem.W.Frag}(n:kl K C f):takerIn K C f=some none:=by unfold takerIn;rw[show findIn K (.ref C) f=some none from n];rfl
structure rd(K:PySem.W.Frag)(C:Addr)(m:Str)(f:Addr):Prop where
 at_:findIn K (.ref C) m=some (some (.ref f))
 fn:isFn K (.ref f)=true
 cL:keepIn K (.ref f)=true
section
variable {X:aR}{pins:List (Addr×Obj)}{aa:St}{H:am}{s:Shared}{a C ao:Addr}{fs:List (Str×V)}{f:Str}{v:V}{A:Around}{E:Value->Shared->Prop}
def A8(I:Inv X pins aa H s)(e:H a=some (.ins C ao fs))(c:g_ X.K C)(n:kl X.K C f)(l:fs.lookup f=some v)
  (h:∀u s',Inv X pins aa H s'->RelV v u->Q u s'):wpAny (model X.prog X.w) A (getAttr (.ref a) f b) Q E s:=by
 let(cC,O,r,_,_):=w4 I.aS e;let(u,g,d):=eb.some_of (v:=v) (o:=cC f) (by grind);calc get_map I.kIn O (c.get f) c.hd n g (A7 d) (h u _ (I.tok _) d)
def A9(I:Inv X pins aa H s)(e:H a=some (.ins C ao fs))(c:g_ X.K C)(k:rd X.K C m g)(l:fs.lookup m=none)
  (h:Q (.ref g,[.ref a]) s):wpAny (model X.prog X.w) A (getMethod (.ref a) m pl) Q E s:=by
 let(cC,O,r,_,_,_):=w4 I.aS e;have b:cC m=none:=eb.none_of (by grind);calc Jq I.kIn O (c.get m) k.at_ k.fn b h
def A_(I:Inv X pins aa H s)(e:H a=some (.ins C ao fs))(c:g_ X.K C)(n:kl X.K C f)(hl:fs.length<1000)(k:RelV y u)
  (h:∀s',Inv X pins aa (upd H a (.ins C ao (fQ f y fs))) s'->Q () s'):wpAny (model X.prog X.w) A (setAttr (.ref a) f u) Q E s:=by
 let(cC,O,r,i,_,j):=w4 I.aS e;have hz:(fs.map (·.1)).length<=sizeLine:=by erw[WC,WJ];lia
 refine Jr I.kIn O c.jx c.po n.taker c.hd i hz λh' d dR=>h _ ?_;have hd:∃o,h'.get? ao=some o:=have⟨o,_,_,gM,_⟩:=d.ns;⟨o,gM⟩;refine I.write (by rw[e];calc True.intro) (.inr j) (λb q l z=>(dR.2 b l).trans z) hd ?_;refine{by rwa[aK O.ne],?_,O.ne,d.obj,_,d.ns,λg=>?_,λg m=>?_};have:=A6 f y fs;lia;rw[A5];by_cases q:g=f;rwa[WO q,WO q];nofun;by_cases q:g=f;erw[q];calc(w3 f y fs).1;refine(w3 f y fs).2 g (i g λz=>m ?_);show(if g=f then some u else cC g)=none;rwa[WM q]
def Inv.made(I:Inv X pins aa H s):Inv X pins aa (upd (upd H s.heap.objs.size (.own (s.heap.objs.size+1))) (s.heap.objs.size+1) (.ins C s.heap.objs.size []))
  {s with heap:=(s.heap.push emptyDict).push (instObj C s.heap.objs.size)}:=by
 have c:(s.heap.push emptyDict).get? s.heap.objs.size=some emptyDict:=Xy s.heap rfl;have d:((s.heap.push emptyDict).push (instObj C s.heap.objs.size)).get? (s.heap.objs.size+1)=some (instObj C s.heap.objs.size):=by have:=Xy (s.heap.push emptyDict) (o:=instObj C s.heap.objs.size) rfl;rwa[Ym]at this
 have aA:=I.laid (o:=.own (s.heap.objs.size+1)) (t':=s.toks) (λb u q=>W4 _ q) (W2 _) {_,c};refine aA.laid (λb u q=>W4 _ q) (aaF (Ym _ _)) ?_;have ne:s.heap.objs.size≠s.heap.objs.size+1:=Xz (Yo _);exact{by rw[aK ne,aO],Xk _,ne,d,λ_=>none,(Heap.Ns1.of_empty ({emptyDict,#[],_,c,rfl,(λe g=>absurd g (by simp)),λ_=>rfl})).at λo q=>W4 _ q,λ_=>True.intro,λy h=>absurd rfl h}
def A'(b:attributeBase e f env (eval e env)=eval e env)
  (h:wpAny (model prog w) A (eval e env) (λo a=>wpAny (model prog w) A (getAttr o f true) Q E a) E s):wpAny (model prog w) A (eval (.Attribute e f pos) env) Q E s:=
 Attribute_any_ h (by erw[arm_eval_Attribute,b])
end
def Ba(X:aR)(a:Operator)(eC:V->V->am->aE->Prop):Prop:=
 ∀pins s(aa:St)H(x y)(u v)Q,Inv X pins aa H s->RelV x u->RelV y v->eC x y H Q->wpAny (model X.prog X.w) X.A (inplaceOp a u v) (en X pins aa Q) X.xe s
def Jt(K:PySem.W.Frag)(aP ea:TE)(eC:V->V->am->aE->Prop)(f:Str):cy:=λD aa H=>aP aa H λx H1=>∃a C ao fs v,x=.ref a/\H1 a=some (.ins C ao fs)/\g_ K C/\kl K C f/\fs.lookup f=some v/\
 ea aa H1 λy ai=>eC v y ai λz c=>∃b iW,c a=some (.ins C b iW)/\iW.length<1000/\D.nx aa (upd c a (.ins C b (fQ f z iW)))
section
variable {X:aR}{o e value:Expr}{f:Str}{pos pos' dN:Pos}{aP ea:TE}
def Ju{e:Operator}(g:aH X o aP)(i:aH X value ea)(b:Ba X e eC):fz X (.AugAssign (.Attribute o f dN) e value pos) (Jt X.K aP ea eC f):=by refine λpins s aa H D I h=>wpAny_AugAssign_AttributeAny (aW (g pins s aa H _ I h) λj s1 zz=>?_);let(x,H1,aA,k,a,C,ao,fs,v,ex,m,c,n,l,q):=zz;subst ex;obtain rfl:j=Value.ref a:=k;refine A8 aA m c n l λu p r t=>aW (i pins p aa H1 _ r q) λw A⟨y,ai,B,E,F⟩=>aW (b pins A aa ai v y u w _ B t E F) λO P zz=>?_;let(z,Q,G,J,K,iW,d,L,M):=zz;calc A_ G d c n L J λR N=>{aa,_,N,M}
def Jv:V->V->am->aE->Prop:=λx y H Q=>∃i j,x=.int i/\y=.int j/\Q (.int (i+j)) H
def Jw:Ba X .Add Jv:=by rintro pins s aa H x y u v Q I a b ⟨i,j,rfl,rfl,q⟩;let(t,rfl):=(show∃t,u=Value.int i t from a);let(t',rfl):=(show∃t',v=Value.int j t' from b);calc PyProof.Rows.iadd_int {.int (i+j),H,I.tok _,{_,rfl},q}
end
structure b2(k:Nat)(A:Around):Prop where
 hd:A.handled=none
 mJ:A.depth+3*k+5<recursionLimit
 un:A.units+16*k+200<cLine
def b2.mono(r:b2 k A)(h:j<=k):b2 j A:={r.hd,by have:=r.mJ;lia,by have:=r.un;lia}
def b2.deeper(r:b2 (k+1) A)env:b2 k (A.deeper env):=
 {r.hd,by have:=r.mJ;show A.depth+1+3*k+5<_;lia,by have:=r.un;show A.units+3+16*k+200<_;lia}
def Jx{A:Around}:(A.under (.builtin "type.__call__" {.ref C::us,a})).depth=A.depth+1:=by first|rfl|simp[guardIds]
def Jy{A:Around}:(A.under (.builtin "type.__call__" {.ref C::us,a})).units=A.units+1:=by first|rfl|simp[Code.isFrame]
def b2.make(r:b2 (k+1) A)C us a:b2 k (A.under (.builtin "type.__call__" {.ref C::us,a})):=
 {r.hd,by have:=r.mJ;rw[Jx];lia,by have:=r.un;rw[Jy];lia}
def b2.depth(r:b2 k A):A.depth<recursionLimit:=by have:=r.mJ;lia
def b2.units(r:b2 k A):A.units+64<cLine:=by have:=r.un;lia
def km:ci:=λ_ H Q=>Q [] H
def m5(aP:TE)(h7:ci):ci:=λaa H Q=>aP aa H λx H1=>h7 aa H1 λxs ai=>Q (x::xs) ai
section
variable {X:aR}{e:Expr}{ay:List Expr}{te:TE}{t:ci}{pos:Pos}
def i4:dF X [] km:=λ_ _ _ _ H Q I h=>Calls.spliced_nil {[],H,I,.nil,h}
def aD(a:aH X e te)(b:dF X ay t)(hs:starEach (e::ay) X.env=(false,eval e X.env)::starEach ay X.env:=by rfl):dF X (e::ay) (m5 te t):=by intro pos pins s aa H Q I h;rw[hs];refine Calls.spliced_cons (aW (a pins s aa H _ I h) λu s1 zz=>?_);let(x,H1,aA,c,d):=zz;exact aW (b pos pins s1 aa H1 _ aA d) λus j zz=>by let(xs,ai,f,g,i):=zz;calc {x::xs,ai,f,.cons c g,i}
end
abbrev bE:=List V->am->aE->b8->Prop
abbrev eD:=List Env->am->Shared->b8->Value->Shared->Prop
structure jy(P:Program)(w:World)(K:PySem.W.Frag)(mg:Str->Option Value)(base:Heap)(A:Around)(outer:List Env)(s:Shared)(H:am):Prop where
 frames:A.frames=some outer
 mod:Mod K mg base
 bs:∀b o,base.get? b=some o->s.heap.get? b=some o/\H b=none
 hI:base.objs.size<=s.heap.objs.size
 funs:s.heap.FunFrames base outer
 iX:∀b∈cE outer,H b=none
 aS:cu P w H s.heap
 bare:AllBare s.gens
def w5(outer:List Env)(P:Program)(w:World)(H:am)(s:Shared)(Q:aE)(u:Value)(s':Shared):Prop:=
 ∃v aj,s'.os=s.os/\AllBare s'.gens/\cK (cE outer) [] H aj s.heap s'.heap/\cu P w aj s'.heap/\RelV v u/\Q v aj
def Jz(CX:eD)(outer:List Env)(P:Program)(w:World)(H:am)(s:Shared)(Q:aE)(E:b8)(r:Result)(s':Shared):Prop:=
 match r with
 |.ok (.ret u)=>w5 outer P w H s Q u s'
 |.ok _=>False
 |.error e=>CX outer H s E e s'
structure dU(P:Program)(w:World)(K:PySem.W.Frag)(mg:Str->Option Value)(base:Heap)(CX:eD)(k:Nat)(f:Addr)(fd:FuncData)(ps:List Str)(sp:bE):Prop where
 len:∀vs H Q E,sp vs H Q E->vs.length=ps.length
 run:∀(A:Around)(outer:List Env)(s:Shared)(H:am)(args:Args)(us:List Value)(vs:List V)(Q:aE)(E:b8),b2 k A->jy P w K mg base A outer s H->BindsTo s fd args (ps.zip us)->a0 vs us->sp vs H Q E->
  codeAny (model P w) A (.call (.ref f) args) (Jz CX outer P w H s Q E) s
def dU.mono{K:PySem.W.Frag}(F:dU P w K mg base CX j f fd ps sp)(h:j<=k):
  dU P w K mg base CX k f fd ps sp:={F.len,λA outer s H args us vs Q E a=>F.run A outer s H args us vs Q E (a.mono h)}
def jy.make{K:PySem.W.Frag}(e:jy P w K mg base A outer s H)C us a:
  jy P w K mg base (A.under (.builtin "type.__call__" {.ref C::us,a})) outer s H:={by first|exact e.frames|(simpa[pushEnvs]using e.frames),e.mod,e.bs,e.hI,e.funs,e.iX,e.aS,e.bare}
section
variable {X:aR}{pins:List (Addr×Obj)}{aa:St}{H:am}{s s':Shared}
def Inv.env0(I:Inv X pins aa H s):jy X.prog X.w X.K X.mg X.base X.A X.stack s H:=
 {I.ok.frames,I.ok.mod,I.bs,W1 I.ok.hI I.sz,I.stack,I.stkFree,I.aS,I.bare}
def Inv.after(I:Inv X pins aa H s)(h:w5 X.stack X.prog X.w H s Q u s'):en X pins aa Q u s':=by let(v,aj,os,bare,un,aS,r,q):=h;let(aI,g,d,t,a):=s';obtain rfl:a=s.os:=os;calc{v,aj,I.call un aS bare λb z=>absurd z (by simp),r,q}
end
def re(sp:bE)(eE:List V)(E:b8)(t:ci):TE:=λaa H Q=>t aa H λvs H1=>sp (vs++eE) H1 Q E
def rf(C:Addr)(m:Str)(sp:bE)(eE:List V)(E:b8)(aP:TE)(t:ci):TE:=λaa H Q=>aP aa H λx H1=>zR0 x λa=>∃ao fs,H1 a=some (.ins C ao fs)/\fs.lookup m=none/\
 t aa H1 λvs ai=>sp (x::(vs++eE)) ai Q E
def rg(C:Addr)(sp:bE)(eE:List V)(E:b8)(t:ci):TE:=λaa H Q=>t aa H λvs H1=>∀x ao,H1 x=none->H1 ao=none->ao≠x->
 sp (.ref x::(vs++eE)) (upd (upd H1 ao (.own x)) x (.ins C ao [])) (λv ai=>v=.bb/\Q (.ref x) ai) E
def Binds(K:PySem.W.Frag)(fd:FuncData)(ps:List Str)(ds:List Value):Prop:=
 ∀s(us:List Value),K.In s.heap->(us++ds).length=ps.length->BindsTo s fd {us,[]} (ps.zip (us++ds))
def Binds.all{K:PySem.W.Frag}(h:∀us:List Value,us.length=ps.length->bindArgs fd {us,[]}=pure (ps.zip us)):Binds K fd ps []:=λs us _ hl=>by rw[XC]at hl⊢;calc .of_eq (h us hl)
def Passes(CX:eD)(X:aR)(E:b8):Prop:=∀pins(aa:St)H s e s',Inv X pins aa H s->CX X.stack H s E e s'->X.xe e s'
section
variable {X:aR}{CX:eD}{k:Nat}{f C:Addr}{fd:FuncData}{ps:List Str}{sp:bE}{eE:List V}{ds:List Value}{E:b8}{x m:Str}{p pos apos:Pos}{e o:Expr}{ay:List Expr}{aP:TE}{t:ci}
def tx{aa:St}(F:dU X.prog X.w X.K X.mg X.base CX k f fd ps sp)(c:b2 k X.A)(d:Binds X.K fd ps ds)(hd:a0 eE ds)(g:Passes CX X E)
  (I:Inv X pins aa H s) (r:a0 vs us) (h:sp (vs++eE) H Q E):wpAny (model X.prog X.w) X.A (call (.ref f) us) (en X pins aa Q) X.xe s:=by
 have b:a0 (vs++eE) (us++ds):=r.append hd;have hl:(us++ds).length=ps.length:=by rw[<-b.length];exact F.len _ _ _ _ h
 refine wpAny_call (abj (F.run X.A X.stack s H {us,[]} (us++ds) (vs++eE) Q E c I.env0 (d s us I.kIn hl) b h) λr s' a=>?_);cases r with
 |error e=>calc g pins aa H s e s' I a
 |ok fl=>
  cases fl with
  |ret u=>calc I.after a
  |next=>calc False.elim a
  |brk=>calc False.elim a
  |cont=>calc False.elim a
def JA(F:dU X.prog X.w X.K X.mg X.base CX k f fd ps sp)(c:b2 k X.A)(d:d2 X x)(g:X.mg x=some (.ref f))(ak:keepIn X.K (.ref f)=true)(i:Binds X.K fd ps ds)(hd:a0 eE ds)(j:Passes CX X E)
  (l:dF X (e::ay) t) (a:(x==("__debug__":Str))=false:=by decide) (m:starEach (e::ay) X.env=(false,eval e X.env)::starEach ay X.env:=by rfl) (b:(backTo pos (starEach ay X.env)).any (·.1)=false:=by rfl):
  aH X (.Call (.Name x p) (e::ay) [] pos) (re sp eE E t):=by
 refine λpins s aa H Q I h=>Yw (lC I d g ?_ a);refine YK I.ok.mod.kc ak (aW (l pos pins s aa H _ I h) λus s1⟨vs,H1,aA,r,q⟩=>{aA.kIn,?_}) m b;calc tx F c i hd j aA r q
def JB{pl:Sem Bool}(j:aH X o aP)(c:g_ X.K C)(g:rd X.K C m f)(F:dU X.prog X.w X.K X.mg X.base CX k f fd ps sp)(n:b2 k X.A)(p:Binds X.K fd ps ds)(hd:a0 eE ds)(v:Passes CX X E)(w:dF X (e::ay) t)
  (b:starEach (e::ay) X.env=(false,eval e X.env)::starEach ay X.env:=by rfl) (d:(backTo pos (starEach ay X.env)).any (·.1)=false:=by rfl)
  (y:eval (.Call (.Attribute o m apos) (e::ay) [] pos) X.env=(do
   let i5<-eval o X.env
   standAt apos.atName
   let(f,first)<-holding [i5] (getMethod i5 m pl)
   callWith pos f first (backTo pos (starEach (e::ay) X.env)) (backToKw pos (keywordEach [] X.env))):=by rfl):
  aH X (.Call (.Attribute o m apos) (e::ay) [] pos) (rf C m sp eE E aP t):=by
 intro pins s aa H Q I h;refine abk (aW (j pins s aa H _ I h) λu s1 zz=>?_) y;let(x,H1,aA,z,q):=zz;let(a,ex,ao,fs,A,l,q):=zR1 q;subst ex;obtain rfl:u=Value.ref a:=z;refine A9 aA A c g l ?_;refine YK I.ok.mod.kc g.cL (aW (w pos pins s1 aa H1 _ aA q) λus D⟨vs,ai,i,r,B⟩=>{i.kIn,?_}) b d;calc tx (vs:=.ref a::vs) F n p hd v i (.cons rfl r) B
def JC(d:aH X o aP)(c:g_ X.K C)(b:rd X.K C m f)(F:dU X.prog X.w X.K X.mg X.base CX k f fd ps sp)(e:b2 k X.A)(g:Binds X.K fd ps ds)(hd:a0 eE ds)(i:Passes CX X E)
  (j:eval (.Call (.Attribute o m apos) [] [] pos) X.env=(do
   let i5<-eval o X.env;standAt apos.atName;let(f,first)<-holding [i5] (getMethod i5 m pl);callWith pos f first (backTo pos (starEach [] X.env)) (backToKw pos (keywordEach [] X.env))):=by rfl):
  aH X (.Call (.Attribute o m apos) [] [] pos) (rf C m sp eE E aP km):=by
 refine λpins s aa H Q I h=>abk (aW (d pins s aa H _ I h) λu s1 zz=>?_) j;let(x,H1,aA,n,q):=zz;let(a,ex,ao,fs,p,l,q):=zR1 q;subst ex;obtain rfl:u=Value.ref a:=n;refine A9 aA p c b l ?_;calc abK aA.kIn b.cL (tx (vs:=[.ref a]) F e g hd i aA (.cons rfl .nil) q)
structure rh(K:PySem.W.Frag)(C f:Addr):Prop where
 makes:makesIn K C=true
 init:findIn K (.ref C) "__init__"=some (some (.ref f))
 fn:isFn K (.ref f)=true
 cL:keepIn K (.ref C)=true
def tz{aa:St}(M:rh X.K C f)(F:dU X.prog X.w X.K X.mg X.base CX k f fd ps sp)(g:b2 (k+1) X.A)(i:Binds X.K fd ps ds)(hd:a0 eE ds)
  (j:Passes CX X E) (I:Inv X pins aa H s) (r:a0 vs us)
  (h:∀x ao,H x=none->H ao=none->ao≠x->sp (.ref x::(vs++eE)) (upd (upd H ao (.own x)) x (.ins C ao [])) (λv ai=>v=.bb/\Q (.ref x) ai) E):
  wpAny (model X.prog X.w) X.A (call (.ref C) us) (en X pins aa Q) X.xe s:=by
 have c:=h (s.heap.objs.size+1) s.heap.objs.size (I.aS.fresh (aaq _)) (I.aS.fresh (W2 _)) (Xz (Yo _));have b:=Inv.made (C:=C) I;have d:a0 (V.ref (s.heap.objs.size+1)::(vs++eE)) (Value.ref (s.heap.objs.size+1)::(us++ds)):=.cons rfl (r.append hd);have hl:(Value.ref (s.heap.objs.size+1)::us++ds).length=ps.length:=by have e:=d.length;rw[F.len _ _ _ _ c]at e;exact e.symm
 refine wpAny_call (Js I.kIn M.makes M.init (YB.mp M.fn) (abj (F.run _ X.stack _ _ {Value.ref (s.heap.objs.size+1)::us,[]} (Value.ref (s.heap.objs.size+1)::(us++ds)) _ _ E (g.make C us [])
  (b.env0.make C us []) (i _ (Value.ref (s.heap.objs.size+1)::us) b.kIn hl) d c) λr s' a=>?_))
 cases r with
 |error e=>calc j pins aa _ _ e s' b a
 |ok fl=>
  cases fl with
  |ret u=>let(v,aj,l,m,ev,n):=b.after a;subst ev;calc{m,{V.ref (s.heap.objs.size+1),aj,l,rfl,n}}
  |next=>calc False.elim a
  |brk=>calc False.elim a
  |cont=>calc False.elim a
def JD(M:rh X.K C f)(F:dU X.prog X.w X.K X.mg X.base CX k f fd ps sp)(c:b2 (k+1) X.A)(d:d2 X x)(g:X.mg x=some (.ref C))(i:Binds X.K fd ps ds)(hd:a0 eE ds)(j:Passes CX X E)
  (l:dF X (e::ay) t) (a:(x==("__debug__":Str))=false:=by decide) (m:starEach (e::ay) X.env=(false,eval e X.env)::starEach ay X.env:=by rfl) (b:(backTo pos (starEach ay X.env)).any (·.1)=false:=by rfl):
  aH X (.Call (.Name x p) (e::ay) [] pos) (rg C sp eE E t):=by
 refine λpins s aa H Q I h=>Yw (lC I d g ?_ a);refine YK I.ok.mod.kc M.cL (aW (l pos pins s aa H _ I h) λus s1⟨vs,H1,aA,r,q⟩=>{aA.kIn,?_}) m b;calc tz M F c i hd j aA r q
def JE(M:rh X.K C f)(F:dU X.prog X.w X.K X.mg X.base CX k f fd ps sp)(b:b2 (k+1) X.A)(c:d2 X x)(d:X.mg x=some (.ref C))(e:Binds X.K fd ps ds)(hd:a0 eE ds)(g:Passes CX X E)
  (a:(x==("__debug__":Str))=false:=by decide):aH X (.Call (.Name x p) [] [] pos) (rg C sp eE E km):=by
 refine λpins s aa H Q I h=>Yw (lC I c d ?_ a);calc abK I.kIn M.cL (tz M F b e hd g I .nil h)
end
structure fA(N P:List Str)(sc:Scope):Prop where
 kind:sc.kind=.function
 co:sc.isCoroutine=false
 gen:sc.isGenerator=false
 nd:N.Nodup
 pre:N.take P.length=P
 par:∀x∈P,sc.names.lookup x=some .local\/sc.names.lookup x=some .cell
 JF:∀y∈sc.names,y.2≠.free
theorem Bb{kindOf:Str->Option NameKind}:∀{binds:List (Str×Value)}{m:Str->Option Value},(∀v,(x,v)∉binds)->bindL kindOf binds m x=m x|[],_,_=>rfl|(n,v)::r,m,h=>by unfold bindL;rw[Bb λw a=>h w (WE _ a)];split;grind;rfl
theorem Bc{kindOf:Str->Option NameKind}:∀{binds:List (Str×Value)}{m:Str->Option Value},(∀v,(x,v)∉binds)->bindC kindOf binds m x=m x|[],_,_=>rfl|(n,v)::r,m,h=>by unfold bindC;rw[Bc λw a=>h w (WE _ a)];split;rfl;grind
theorem ri{kindOf:Str->Option NameKind}:∀{P:List Str}{vs:List Value}{i:Nat}{m:Str->Option Value},P.Nodup->P[i]? =some x->vs[i]? =some v->kindOf x=some .local->
  bindL kindOf (P.zip vs) m x=some v
 |[],_,_,_,_,h,_,_=>by simp at h
 |_::_,[],_,_,_,_,h,_=>by simp at h
 |p::P,w::vs,0,m,nd,ae,ag,ak=>by simp at ae ag;subst ae;subst ag;show bindL kindOf ((p,w)::P.zip vs) m p=_;unfold bindL;rw[Bb λv a=>(W3.mp nd).1 (abl a).1,WO ak];simp
 |p::P,w::vs,i+1,m,nd,ae,ag,ak=>by show bindL kindOf ((p,w)::P.zip vs) m x=_;unfold bindL;calc ri (i:=i) (W3.mp nd).2 (by nofun) (by nofun) ak
theorem Bd{kindOf:Str->Option NameKind}:∀{P:List Str}{vs:List Value}{i:Nat}{m:Str->Option Value},P.Nodup->P[i]? =some x->vs[i]? =some v->kindOf x≠some .local->
  bindC kindOf (P.zip vs) m x=some v|[],_,_,_,_,h,_,_=>by simp at h|_::_,[],_,_,_,_,h,_=>by simp at h|p::P,w::vs,0,m,nd,ae,ag,ak=>by simp at ae ag;subst ae;subst ag;show bindC kindOf ((p,w)::P.zip vs) m p=_;unfold bindC;rw[Bc λv a=>(W3.mp nd).1 (abl a).1,WM ak];simp|p::P,w::vs,i+1,m,nd,ae,ag,ak=>by unfold bindC;calc Bd (i:=i) (W3.mp nd).2 (by nofun) (by nofun) ak
def start(N:List Str)(vs:List V):St:=vs.map some++List.replicate (N.length-vs.length) none
def ep(CX:eD)(P:Program)(w:World)(K:PySem.W.Frag)(mg:Str->Option Value)(base:Heap)(N:List Str)(qual:Str)(a:Scope)(f:Addr)(c:Value)(A:Around)(outer:List Env)(s:Shared)(H:am)(E:b8):aR where
 prog:=P
 w:=w
 K:=K
 mg:=mg
 base:=base
 A:=A.deeper (envOfC qual a s.heap.objs.size f c)
 N:=N
 s_0:=s
 H_0:=H
 env:=envOfC qual a s.heap.objs.size f c
 outer:=outer
 stack:=envOfC qual a s.heap.objs.size f c::outer
 ex:=[]
 calm:=true
 fn:=λ_=>true
 pn:=[]
 xe:=λe s'=>wpAny (model P w) (A.deeper (envOfC qual a s.heap.objs.size f c)) (leaving (envOfC qual a s.heap.objs.size f c) e) (λ_ b=>CX outer H s E e b) (λd b=>CX outer H s E d b) s'
def Be{sc:Scope}(h:sc.names.lookup x=some .cell):∃c,(cellsFrom n sc.names []).lookup x=some c:=by have q:=aa_ sc.names n [] (.inl h);calc ZJ.mp q
def JG{K:PySem.W.Frag}
  (S:fA N ps d) (hd:A.handled=none) (g:jy P w K mg base A outer s H) (hl:vs.length=ps.length) (r:a0 vs us)
  (x:InCallC s s.heap.objs.size (bindL (envOfC qual d s.heap.objs.size f o).kindOf (ps.zip us) λ_=>none) (cellsFrom (s.heap.objs.size+1) d.names []) (bindC (envOfC qual d s.heap.objs.size f o).kindOf (ps.zip us) λ_=>none) s1):
  Inv (ep CX P w K mg base N qual d f o A outer s H E) [] (start N vs) H s1:=by
 have B:ps.length<=N.length:=by have:=congrArg List.length S.pre;rw[Yp]at this;lia
 let(ae,tk,rfl,ak):=x.done;have j:∀b:Addr,b∉(ep CX P w K mg base N qual d f o A outer s H E).ex:=λb z=>absurd (show b∈([]:List Addr)from z) (by simp);refine{{g.mod,S.kind,rfl,rfl,W2 _,λy z c ae ag=>?_,λy aN=>?_,λy c _ h=>?_,λ_=>hd,Around.frames_deeper g.frames,.inr ⟨rfl,rfl⟩,λb z=>absurd z (j b),g.bs,g.hI,λb _ _=>j b,λb z=>absurd z (j b),g.funs,g.iX},
  rfl,g.bare,cK.kept ak,{_,x.toInCall.ns,λi y v ae ag F=>?_},λy c h=>{_,x.cell y c h},g.aS.fresh (W2 _),λy c h=>?_,λp l=>absurd (show p∈([]:List (Addr×Obj))from l) (by simp),g.aS.kept ak,?_}
 calc name_of_addr x.apart (XG ae) (XG ag);rcases aN with aN|aN
 calc Be aN;calc absurd rfl (S.JF _ (XG aN));calc Yg (x.above y c (XG h));have af:i<vs.length:=by unfold start at ag;by_cases af:i<vs.length;calc af;rw[X0 (by simpa using af)]at ag;rw[aaV]at ag;split at ag<;>cases ag
 have C:vs[i]? =some v:=by
  unfold start at ag;rw[YG (by simpa using af),WG]at ag;cases e:vs[i]? with
  |none=>rw[e]at ag;cases ag
  |some a=>nofun
 let(u,t,D):=r.get C;have l:ps[i]? =some y:=by rw[<-S.pre,List.getElem?_take_of_lt (by nofun)];exact ae
 have m:ps.Nodup:=by rw[<-S.pre];exact S.nd.sublist (List.take_sublist _ _)
 refine{u,D,?_};rcases S.par y (WS l)with k|k
 calc .inl {k,ri m l t k};let(c,e):=Be k;refine .inr {.inl k,c,e,?_};have q:=x.cell y c e;rw[Bd m l t (by show d.names.lookup y≠_;rw[k];decide)]at q;calc q;calc g.aS.fresh (Yg (x.above y c (XG h)));unfold start;show _=N.length;erw[WI,WC,abm];nofun
def Bf{CX:eD}{K:PySem.W.Frag}{B cb doc pm a_ ct ff:Value}
  {fB:Array (Option Value)}{N ps:List Str}{sp:bE} (lk:K.lookup f=some {ff,cD,.func (fnOf name qual c body a B cb doc pm an a_ ct),fB}) (l:codeIn K a_ qual=true) (S:fA N ps a)
  (len:∀vs H Q E,sp vs H Q E->vs.length=ps.length)
  (d:∀(A:Around)(outer:List Env)(s:Shared)(H:am)(vs:List V)(Q:aE)(E:b8),b2 k (A.deeper (envOfC qual a s.heap.objs.size f a_))->sp vs H Q E->
   ∃t,eo (ep CX P w K mg base N qual a f a_ A outer s H E) body t/\t {nx:=λ_ aj=>Q .bb aj,rt:=Q} (start N vs) H):
  dU P w K mg base CX (k+1) f (fnOf name qual c body a B cb doc pm an a_ ct) ps sp:=by
 refine{len,λA outer s H args us vs Q E m h D r i=>?_};have hl:=len _ _ _ _ i;have C:K.In s.heap:=h.mod.kc.keeps λb o e=>(h.bs b o e).1;have p:s.heap.NoLimit:=h.mod.nolimit.keeps λb o e=>(h.bs b o e).1;have g:∀y∈ps.zip us,a.names.lookup y.1=some .local\/(a.names.lookup y.1=some .cell/\((cellsFrom (s.heap.objs.size+1) a.names []).lookup y.1).isSome=true):=λ⟨n,v⟩F=>by
  rcases S.par n (abl F).1 with q|q
  grind;exact .inr {q,aa_ _ _ _ (.inl q)}
 refine codeAny_call_function m.depth (C _ _ lk) rfl S.co S.gen rfl (codeRec_of C l) (D _ _ _ _ ?_);refine aaA S.kind g λenv G s1 x=>?_;subst G;refine{p.keeps x.toInCall.keep,codeAny_func ?_};let(t,L,M):=d A outer s H vs Q E (m.deeper _) i;have I:Inv (ep CX P w K mg base N qual a f a_ A outer s H E) [] (start N vs) H s1:=JG S m.hd h hl r x;refine Yi (L [] s1 (start N vs) H _ I M) (λfl s' hs=>?_) λe s' hs=>hs;have j:∀{σ':St}{aj:am}{v:V}{u:Value},Inv (ep CX P w K mg base N qual a f a_ A outer s H E) [] σ' aj s'->RelV v u->Q v aj->w5 outer P w H s Q u s':=
  λ{σ' aj v u}J z q=>⟨v,aj,J.os,J.bare,J.base,J.aS,z,q⟩
 cases fl with
 |ret u=>let(v,σ',aj,J,z,q):=hs;calc j J z q
 |next=>let(σ',aj,J,q):=hs;calc j (v:=V.bb) (u:=Value.none) J rfl q
 |brk=>let(_,_,_,q):=hs;calc False.elim q
 |cont=>let(_,_,_,q):=hs;calc False.elim q
section
variable {X:aR}{x:Str}{p pos:Pos}{e:Expr}{ay:List Expr}{t:ci}{id T:String}{r:List V->am->aE->Prop}
def tA(r:List V->am->aE->Prop)(t:ci):TE:=λaa H Q=>t aa H λvs H1=>r vs H1 Q
def gm(hc:dT X (.builtin id) r)(c:d2 X x)(d:X.mg x=none)(f:bootBuiltins x=some (.builtin id))(g:dF X (e::ay) t)(i:x≠ "__name__":=by decide)(a:(x==("__debug__":Str))=false:=by decide)
  (j:starEach (e::ay) X.env=(false,eval e X.env)::starEach ay X.env:=by rfl) (b:(backTo pos (starEach ay X.env)).any (·.1)=false:=by rfl):aH X (.Call (.Name x p) (e::ay) [] pos) (tA r t):=by
 refine λpins s aa H Q I h=>Yw (oL I c d f ?_ i a);exact PyProof.Rows.callWith_builtin1 (aW (g pos pins s aa H _ I h) λus s1 zz=>by let(vs,H1,aA,k,l):=zz;calc hc pins s1 aa H1 vs us Q aA k l) j b
def kn(hc:dT X (.type T) r)(c:d2 X x)(d:X.mg x=none)(f:bootBuiltins x=some (.type T))(g:dF X (e::ay) t)(i:x≠ "__name__":=by decide)(a:(x==("__debug__":Str))=false:=by decide)
  (j:starEach (e::ay) X.env=(false,eval e X.env)::starEach ay X.env:=by rfl) (b:(backTo pos (starEach ay X.env)).any (·.1)=false:=by rfl):aH X (.Call (.Name x p) (e::ay) [] pos) (tA r t):=by
 refine λpins s aa H Q I h=>Yw (oL I c d f ?_ i a);exact Yv (aW (g pos pins s aa H _ I h) λus s1 zz=>by let(vs,H1,aA,k,l):=zz;calc hc pins s1 aa H1 vs us Q aA k l) j b
end
end L2
namespace eF
open PySem PyProof.Rows
section
open PySem.SeqAt
open PySem.AutoSeq1 (wpAny_loadPart')
open PySem.MeetsSeq PySem.MeetsSeq2 PySem.MeetsSeq3
end
section
variable {prog:Program}{w:World}{A:Around}{E:Value->Shared->Prop}{s:Shared}
def fZ(n d:Nat):Option Int->Nat|none=>d|some v=>if v<0 then(v+n).toNat else min v.toNat n
def oV(n d k:Nat):fZ n d (some k)=min k n:=by show(if k<0 then(k+(n:Int)).toNat else min (k:Int).toNat n)=min k n;rw[WM (by nofun),XM]
end
end eF
namespace L2
open PySem PySem.Spec PyProof.Rows
abbrev gN:=St->am->(Option Int->am->Prop)->Prop
def tB(X:aR)(e:Option Expr)(t:gN):Prop:=
 ∀pins s(aa:St)H Q,Inv X pins aa H s->t aa H Q->
  wpAny (model X.prog X.w) X.A (evalPart e X.env) (λu s'=>∃o aj,Inv X pins aa aj s'/\IsPart u o/\Q o aj) X.xe s
def Bg:gN:=λ_ H Q=>Q none H
def Bh(t:TE):gN:=λaa H Q=>t aa H λx H1=>zI0 x λi=>Q (some i) H1
section
variable {X:aR}{e:Expr}{te:TE}{lo af:Option Expr}{bT tC:gN}{pos bn:Pos}
def rj:tB X none Bg:=by intro pins s aa H Q I h;calc wpAny_pure {none,H,I,.none,h}
def gO(h:aH X e te):tB X (some e) (Bh te):=by intro pins s aa H Q I a;refine aW (h pins s aa H _ I a) λu s1 zz=>?_;let(x,H1,aA,b,c):=zz;let(i,rfl,q):=zI1 c;let(t,rfl):=b;calc{some i,H1,aA,.int i t,q}
def lG(X:aR)(r:V->Option Int->Option Int->am->aE->Prop):Prop:=
 ∀pins s(aa:St)H x(v a b)(lo af)a3 Q,Inv X pins aa H s->RelV x v->s.heap.IsSliceOf a3 a b .none->IsPart a lo->IsPart b af->r x lo af H Q->
  ∃T id,typeLookup (.type T) "__getitem__"=pure (some (.builtin id))/\s.TypeIs v T/\wpAny (model X.prog X.w) X.A (getItem v (.ref a3)) (en X pins aa Q) X.xe s
def Bi(r:V->Option Int->Option Int->am->aE->Prop)(te:TE)(bT tC:gN):TE:=λaa H Q=>te aa H λx H1=>bT aa H1 λl ai=>tC aa ai λu a=>r x l u a Q
def jz(g:lG X r)(i:aH X e te)(hl:tB X lo bT)(j:tB X af tC):aH X (.Subscript e (.Slice lo af none bn) pos) (Bi r te bT tC):=by refine λpins s aa H Q I h=>Subscript_ (aW (i pins s aa H _ I h) λv s1 zz=>?_);let(x,H1,aA,k,m):=zz;refine wpAny_Slice (aW (hl pins s1 aa H1 _ aA m) λc n⟨l,ai,o,pl,p⟩=>aW (j pins n aa ai _ o p) λd a zz=>?_);let(u,f,t,w,y):=zz;refine wpAny_pure ?_;let(T,id,A,B,C):=g pins {a with heap:=a.heap.push {cls:=.type "slice",data:=.fields #[c,d,.none]}} aa f x v c d l u a.heap.objs.size Q (t.kept λb D q=>W4 _ q) k (Heap.IsSliceOf.new ..) pl w y;calc tail_any B A C (by with_unfolding_all rfl)
def ha(xs:List V)(lo af:Option Int):List V:=(xs.drop (eF.fZ xs.length 0 lo)).take (eF.fZ xs.length xs.length af-eF.fZ xs.length 0 lo)
def JH xs(lo af):(ha xs lo af).length<=xs.length:=by unfold ha;erw[Yp,W5];calc W1 (Nat.min_le_right ..) (Nat.sub_le ..)
end
def hO(n:Nat)(i:Int):Option Nat:=if 0<=i then(if i<n then some i.toNat else none)else if -n<=i then some (i+n).toNat else none
def hP{α:Type}(xs:List α)(i:Int):Option α:=(hO xs.length i).bind λj=>xs[j]?
def Bj(h:hO n i=some j):seqIndex? i n=some j/\j<n/\ -n<=i/\i<n:=by unfold hO at h;by_cases a:0<=i;rw[WO a]at h;by_cases ae:i<n;rw[WO ae]at h;have e:=Xw h;exact{by rw[seqIndex_of a ae,e],by lia,by lia,ae};nofun;rw[WM a]at h;by_cases ae: -n<=i;rw[WO ae]at h;have e:=Xw h;exact{by rw[seqIndex_neg (by nofun) ae,e],by lia,ae,by lia};nofun
def w6(h:hP xs i=some v):∃j,seqIndex? i xs.length=some j/\xs[j]? =some v/\j<xs.length/\ -(xs.length:Int)<=i/\i<xs.length:=by
 unfold hP at h;cases e:hO xs.length i with
 |none=>nofun
 |some j=>rw[e]at h;let(ae,ag,a,b):=Bj e;calc⟨j,ae,h,ag,a,b⟩
def w7{xs:List α}{j:Nat}{v:α}(h:xs[j]? =some v):hP xs j=some v:=by
 have a:=(WH.mp h).1;have e:hO xs.length j=some j:=by unfold hO;rw[WO (by nofun),WO (by nofun)];simp
 unfold hP;rwa[e]
def Bk(xs:List α)v:hP (xs++[v]) (-1)=some v:=by
 have hl:(xs++[v]).length=xs.length+1:=by simp
 have e:hO (xs++[v]).length (-1)=some xs.length:=by unfold hO;rw[WM (by decide),WO (by lia)];congr 1;(simp;lia)
 unfold hP;erw[e];simp
def Bl(b:Expr):Prop:=∀o i,subscripted b false o i=operate [o,i] (getItem o i)
def i6(X:aR)(r:dr):Prop:=
 ∀(value a)pins s(aa:St)H(x y)(v u)Q,Inv X pins aa H s->RelV x v->RelV y u->r x y H Q->
  subscripted a false v u=operate [v,u] (getItem v u)->wpAny (model X.prog X.w) X.A (subscriptTail value a v u) (en X pins aa Q) X.xe s
def hb(X:aR)(id:String)(r:V->List V->am->aE->Prop):Prop:=
 ∀pins s(aa:St)H x xs v us Q,Inv X pins aa H s->RelV x v->a0 xs us->r x xs H Q->
  wpAny (model X.prog X.w) X.A (call (.builtin id) (v::us)) (en X pins aa Q) X.xe s
section
variable {X:aR}{a b:Expr}{aP bi:TE}{pos:Pos}
def w8(c:i6 X r)(d:aH X a aP)(e:aH X b bi)(hs:Bl b):aH X (.Subscript a b pos) (m3 r aP bi):=λpins s aa H Q I h=>Subscript_ (w0 d e I h λv u f x y ai g i j q=>c a b pins f aa ai x y v u Q g i j q (hs _ _))
def JI(K:PySem.W.Frag):dr:=λx y H Q=>∃p xs i v,x=.ref p/\y=.int i/\au K H p xs/\hP xs i=some v/\Q v H
def JJ(K:PySem.W.Frag):dr:=λx y H Q=>∃p xs i v,x=.ref p/\y=.int i/\bJ K H p xs/\hP xs i=some v/\Q v H
def JK:dr:=λx y H Q=>∃z i c,x=.str z/\y=.int i/\z.length<=sizeLine/\hP z.cps.toList i=some c/\Q (.str {#[c]}) H
def JL:i6 X (JI X.K):=by
 intro value b pins s aa H x y v u Q I g k h hs;let(p,xs,i,z,rfl,rfl,l,m,q):=h;cases g;let(t,rfl):=k;let(its,r,pl,hz):=I.list l;let(j,ae,ag,A,n,o):=w6 m;let(w,e,c):=r.get ag;have hl:=r.length;have B:=oU;have a:en X pins aa Q w s:=⟨z,H,I,c,q⟩;by_cases f:0<=i;have d:i.toNat=j:=by rw[seqIndex_of f o]at ae;exact Xw ae
 calc item_listR pl.isList f (by lia) (by nofun) a hs;have d:(i+(its.toArray.size:Int)).toNat=j:=by rw[seqIndex_neg (by lia) n]at ae;rw[W_,<-hl];exact Xw ae
 exact subscriptTail_builtinR (x:=w) pl.isList.typeIs slot_list_getitem.lookup
  (wpAny_getItem_list_neg (Q:=λr s'=>r=w/\en X pins aa Q r s') pl.isList (by lia) (by nofun) (by lia) (by nofun) ⟨rfl,a⟩) hs
def JM:i6 X (JJ X.K):=by
 intro value a pins s aa H x y v u Q I d e h hs;let(p,xs,i,z,rfl,rfl,f,g,q):=h;cases d;let(t,rfl):=e;let(its,r,pl,hz):=I.tuple f;let(j,ae,ag,l,m,n):=w6 g;let(w,k,b):=r.get ag;have hl:=r.length;have o:=oU;have c:en X pins aa Q w s:=⟨z,H,I,b,q⟩;exact subscriptTail_builtinR (x:=w) pl.typeIs slot_tuple_getitem.lookup
  (getItem_tuple (j:=j) (Q:=λr s'=>r=w/\en X pins aa Q r s') pl (by lia) (by lia) (by nofun) (by nofun) ⟨rfl,c⟩) hs
def JN:i6 X JK:=by
 intro value a pins s aa H x y v u Q I b d h hs;let(z,i,c,rfl,rfl,hz,e,q):=h;let(t,rfl):=b;let(t',rfl):=d;let(j,ae,ag,m,f,g):=w6 e;have hl:z.cps.toList.length=z.length:=by simp[Str.length]
 have n:=oU;calc tail_any (typeIs_str s z t) slot_str_getitem.lookup (getItem_str (by lia) (by nofun) {.str {#[c]},H,I.tok _,{_,rfl},q}) hs
def JO(its:List Value)(n j)u:Obj.mapSeq (·.setIfInBounds j u) {cls:=.type "list",data:=.seq its.toArray n}= {cls:=.type "list",data:=.seq (its.set j u).toArray n}:=by simp[Obj.mapSeq]
def Inv.lst{aa:St}(I:Inv X pins aa H s)(h:H p=some (.lst xs)):
  ∃its n,a0 xs its/\s.heap.get? p=some {cls:=.type "list",data:=.seq its.toArray n}/\xs.length<=sizeLine:=by
 let(z,its,n,r,e):=I.aS p _ h;calc⟨its,n,r,e,z⟩
def Inv.lstUpd{aa:St}{its its':List Value}{n a:Nat}(I:Inv X pins aa H s)(h:H p=some (.lst xs))
  (d:s.heap.get? p=some {cls:=.type "list",data:=.seq its.toArray n}) (c:f {cls:=.type "list",data:=.seq its.toArray n}= {cls:=.type "list",data:=.seq its'.toArray a}) (r:a0 ys its') (hz:ys.length<=sizeLine) t:
  Inv X pins aa (upd H p (.lst ys)) {s with heap:=s.heap.update p f,toks:=t}:=by
 have e:(s.heap.update p f).get? p=some {cls:=.type "list",data:=.seq its'.toArray a}:=by rw[Zr f d (by rw[c]<;>rfl),c]
 refine I.write (by rw[h];trivial) (.inl rfl) (λb u g q=>(X7 _ _ (XE g)).trans q) {_,e} ?_;calc⟨hz,its',a,r,e⟩
def tD:V->V->V->am->(am->Prop)->Prop:=λo i v H Q=>∃p xs k j,o=.ref p/\i=.int k/\H p=some (.lst xs)/\hO xs.length k=some j/\Q (upd H p (.lst (xs.set j v)))
def set_list:wO X tD:=by
 intro pins s aa H o i v x y u Q I g l m h;let(p,xs,k,j,rfl,rfl,b,w,q):=h;cases g;let(t,rfl):=l;let(its,n,r,a,hz):=I.lst b;let(ae,ag,c,d):=Bj w;have hl:=r.length;have z:=oU;have e:Inv X pins aa (upd H p (.lst (xs.set j v))) {s with heap:=s.heap.update p (Obj.mapSeq (·.setIfInBounds j u))}:=
  I.lstUpd b a (JO its n j u) (r.set m j) (by nofun) s.toks
 by_cases f:0<=k
 ·have ak:k.toNat=j:=by
   rw[seqIndex_of f d]at ae;exact Xw ae
  exact PySem.W.ki_setAt a f (by lia) (by nofun) (by grind)
 ·have ak:(k+(its.toArray.size:Int)).toNat=j:=by
   rw[seqIndex_neg (by lia) c]at ae;rw[W_,<-hl];exact Xw ae
  calc PySem.W.ki_setBack a (by lia) (by nofun) (by lia) (by grind)
def JP(lo af)n:(sliceBounds lo af none n).1=((eF.fZ n 0 lo))/\(sliceBounds lo af none n).2.1=((eF.fZ n n af))/\(sliceBounds lo af none n).2.2=1:=by
 refine{?_,?_,rfl};cases lo with|none=>simp[sliceBounds,eF.fZ]|some i=>simp[sliceBounds,eF.fZ,Z4];by_cases h:i<0;grind;grind
 cases af with|none=>simp[sliceBounds,eF.fZ]|some i=>simp[sliceBounds,eF.fZ,Z4];by_cases h:i<0;grind;grind
def JQ(its:List Value)(lo af):slicePick its.toArray lo af none=((its.drop (eF.fZ its.length 0 lo)).take (eF.fZ its.length its.length af-eF.fZ its.length 0 lo)).toArray:=by let(ae,ag,a):=JP lo af its.toArray.size;unfold slicePick;erw[ae,ag,a];simp only[sliceRange_one,pick_run,W_]<;>rfl
def JR(K:PySem.W.Frag):V->Option Int->Option Int->am->aE->Prop:=λx lo af H Q=>∃a xs,x=.ref a/\au K H a xs/\∀p,H p=none->Q (.ref p) (upd H p (.lst (ha xs lo af)))
def JS:lG X (JR X.K):=by intro pins s aa H x v i j lo af a3 Q I e hs pl f h;let(a,xs,rfl,g,q):=h;cases e;let(its,r,d,hz):=I.list g;have c:=r.length;refine{"list",_,slot_list_getitem.lookup,d.isList.typeIs,?_};refine wpAny_getItem_list_slice d.isList hs pl f .none (by simp) ?_ (by nofun);rw[JQ,<-c];refine{.ref s.heap.objs.size,_,I.laid (λb k q=>W4 _ q) (W2 _) ?_,rfl,q _ (I.aS.fresh (W2 _))};calc{W1 (JH xs lo af) hz,_,0,(r.drop (eF.fZ xs.length 0 lo)).take (eF.fZ xs.length xs.length af-eF.fZ xs.length 0 lo),Xy _ rfl}
def hQ:V->Bool|.bb=>true|.aG _=>true|.int _=>true|.str _=>true|_=>false
def ip:V->V->Bool|.bb,.bb=>true|.aG a,.aG b=>a==b|.aG a,.int b=>(if a then 1 else 0)==b|.int a,.aG b=>a==(if b then 1 else 0)|.int a,.int b=>a==b|.str a,.str b=>a==b|_,_=>false
def JT(d:RelV y u)(c:RelV x v)(f:hQ y=true)(e:hQ x=true):SeqAt.EqAt A s u v (ip y x):=by
 cases y with
 |bb=>
  cases d;cases x with
  |bb=>cases c;calc SeqAt.EqAt.same _|aG b=>cases c;calc SeqAt.EqAt.none_bool b
  |int b=>let(t,rfl):=c;calc SeqAt.EqAt.none_int b t
  |str b=>let(t,rfl):=c;calc SeqAt.EqAt.none_str b t
  |_=>calc absurd (show false=true from e) W9
 |aG a=>
  cases d;cases x with
  |bb=>cases c;calc SeqAt.EqAt.bool_none a
  |aG b=>cases c;calc SeqAt.EqAt.bool_bool a b
  |int b=>let(t,rfl):=c;calc SeqAt.EqAt.bool_int a b t
  |str b=>let(t,rfl):=c;calc SeqAt.EqAt.bool_str a b t
  |_=>calc absurd (show false=true from e) W9
 |int a=>
  let(t',rfl):=d;cases x with
  |bb=>cases c;calc SeqAt.EqAt.int_none a t'
  |aG b=>cases c;calc SeqAt.EqAt.int_bool a t' b
  |int b=>let(t,rfl):=c;calc SeqAt.EqAt.int_int a t' b t
  |str b=>let(t,rfl):=c;calc SeqAt.EqAt.int_str a t' b t
  |_=>calc absurd (show false=true from e) W9
 |str a=>
  let(t',rfl):=d;cases x with
  |bb=>cases c;calc SeqAt.EqAt.str_none a t'
  |aG b=>cases c;calc SeqAt.EqAt.str_bool a t' b
  |int b=>let(t,rfl):=c;calc SeqAt.EqAt.str_int a t' b t
  |str b=>let(t,rfl):=c;calc SeqAt.EqAt.str_str a t' b t
  |_=>calc absurd (show false=true from e) W9
 |_=>calc absurd (show false=true from f) W9
def gn(x:V)(u:Value):Bool:=match u with|.none=>ip .bb x|.bool b=>ip (.aG b) x|.int i _=>ip (.int i) x|.str z _=>ip (.str z) x|_=>false
def tE(r:RelV y u)(f:hQ y=true):gn x u=ip y x:=by
 cases y with|bb=>cases r;rfl|aG b=>cases r;rfl|int i=>let(t,rfl):=r;rfl|str z=>let(t,rfl):=r;rfl|_=>calc absurd (show false=true from f) W9
theorem rk:∀{xs:List V}{us:List Value},a0 xs us->xs.all hQ=true->us.any (gn x)=xs.any λy=>ip y x|_,_,.nil,_=>rfl|y::xs,u::us,.cons r t,f=>by rw[aaW,Xd]at f;rw[Yx,Yx,tE r f.1,rk t f.2]
theorem oW(a:RelV x v)(b:hQ x=true):∀{xs:List V}{us:List Value},a0 xs us->xs.all hQ=true->∀u∈us,SeqAt.EqAt A s u v (gn x u)
 |_,_,.nil,_=>λu bg=>by cases bg|y::xs,u::us,.cons r t,f=>λc bg=>by
  rw[aaW,Xd]at f;rcases WW.mp bg with rfl|bg;rw[tE r f.1];calc JT r a f.1 b;calc oW a b t f.2 c bg
def ko(x:V)(xs:List V):Bool:=xs.any λy=>ip y x
def m6(K:PySem.W.Frag)(neg:Bool):dr:=λx y H Q=>∃p xs,y=.ref p/\(au K H p xs\/bJ K H p xs)/\hQ x=true/\xs.all hQ=true/\Q (.aG (if neg then !ko x xs else ko x xs)) H
def JU:cI X (compareOp .In) (m6 X.K false):=by
 intro pins s aa H x y v u Q I b d h;let(p,xs,rfl,a9,c,fs,q):=h;cases d;rcases a9 with a9|a9;let(its,r,pl,hz):=I.list a9;refine SeqAt.in_listAt (gn x) pl.isList (λw a=>oW b c r fs w (by grind)) {.aG _,H,I,rfl,?_};rwa[show its.toArray.any (gn x)=its.any (gn x)by simp,rk r fs];let(its,r,pl,hz):=I.tuple a9;refine SeqAt.in_tupleAt (gn x) pl (λw a=>oW b c r fs w (by grind)) {.aG _,H,I,rfl,?_};rwa[show its.toArray.any (gn x)=its.any (gn x)by simp,rk r fs]
def JV:cI X (compareOp .NotIn) (m6 X.K true):=by
 intro pins s aa H x y v u Q I b d h;let(p,xs,rfl,a9,c,fs,q):=h;cases d;rcases a9 with a9|a9;let(its,r,pl,hz):=I.list a9;refine SeqAt.notIn_listAt (gn x) pl.isList (λw a=>oW b c r fs w (by grind)) {.aG _,H,I,rfl,?_};rwa[show its.toArray.any (gn x)=its.any (gn x)by simp,rk r fs];let(its,r,pl,hz):=I.tuple a9;refine SeqAt.notIn_tupleAt (gn x) pl (λw a=>oW b c r fs w (by grind)) {.aG _,H,I,rfl,?_};rwa[show its.toArray.any (gn x)=its.any (gn x)by simp,rk r fs]
def JW:dT X (.builtin "len") (λxs H Q=>∃p ys,xs=[.ref p]/\(au X.K H p ys\/bJ X.K H p ys)/\Q (.int ys.length) H):=by
 intro pins s aa H xs us Q I r h;let(p,ys,rfl,a9,q):=h;let(u,rfl,c):=vals1 r;cases c;have d:=oU;rcases a9 with a9|a9
 let(its,b,pl,hz):=I.list a9;have a:=b.length;exact Calls.call_len_list pl.isList (by grind) {.int ys.length,H,I.tok _,{s.toks+1,by grind},q};let(its,b,pl,hz):=I.tuple a9;have a:=b.length;exact len_tuple pl (by grind) {.int ys.length,H,I.tok _,{s.toks+1,by grind},q}
def JX:dT X (.builtin "len") (λxs H Q=>∃z,xs=[.str z]/\z.length<=sizeLine/\Q (.int z.length) H):=by intro pins s aa H xs us Q I r h;let(z,rfl,hz,q):=h;let(u,rfl,t,rfl):=vals1 r;have a:=oU;calc len_str (by lia) {.int z.length,H,I.tok _,{_,rfl},q}
def JY:dT X (.type "list") (λxs H Q=>∃p ys,xs=[.ref p]/\(au X.K H p ys\/bJ X.K H p ys)/\∀l,H l=none->Q (.ref l) (upd H l (.lst ys))):=by
 intro pins s aa H xs us Q I r h;let(p,ys,rfl,a9,q):=h;let(u,rfl,i):=vals1 r;cases i;have d:∀(its:List Value),a0 ys its->ys.length<=sizeLine->∀(h':Heap) (a:Nat),(∀b dq,s.heap.get? b=some dq->h'.get? b=some dq)->
   h'.get? s.heap.objs.size=some {cls:=.type "list",dict:=none,data:=.seq its.toArray a,slots:= #[]}->en X pins aa Q (.ref s.heap.objs.size) {s with heap:=h'}:=λits c hz h' a cL e=>
  {.ref s.heap.objs.size,_,I.laid (t':=s.toks) cL (W2 _) (show cX X.prog X.w _ h' _ (.lst ys) from⟨hz,its,a,c,e⟩),rfl,q _ (I.aS.fresh (W2 _))}
 rcases a9 with a9|a9
 ·let(its,c,pl,hz):=I.list a9
  have f:=c.length;let(o,g,hc,n,hd):=pl.isList;exact call_list_seq p (.inl rfl) g hc hd (λh' a cL e=>d its c hz h' a cL e) (by grind)
 ·let(its,c,pl,hz):=I.tuple a9
  have f:=c.length;let(o,g,hc,n,hd):=pl;calc call_list_seq p (.inr rfl) g hc hd (λh' a cL e=>d its c hz h' a cL e) (by grind)
def JZ:dT X (.type "tuple") (λxs H Q=>∃p ys,xs=[.ref p]/\((au X.K H p ys/\∀l,H l=none->Q (.ref l) (upd H l (.tup ys)))\/(bJ X.K H p ys/\Q (.ref p) H))):=by
 intro pins s aa H xs us Q I r h;let(p,ys,rfl,h):=h;let(u,rfl,f):=vals1 r;cases f;rcases h with⟨a,q⟩|⟨a,q⟩;let(its,c,pl,hz):=I.list a;have d:=c.length;refine call_tuple_list pl.isList (λh' cL=>?_) (by grind);have aA:Inv X pins aa H {s with heap:=h'}:=I.kept cL;have g:Inv X pins aa (upd H h'.objs.size (.tup ys)) {s with heap:=h'.push {cls:=.type "tuple",data:=.seq its.toArray}}:=
  aA.laid (λb o e=>W4 _ e) (W2 _) (show cX X.prog X.w _ _ _ (.tup ys)from{hz,its,c,IsTup.new _ _})
 calc{.ref h'.objs.size,_,g,rfl,q _ (aA.aS.fresh (W2 _))};let(its,c,pl,hz):=I.tuple a;calc call_tuple_same pl {.ref p,H,I,rfl,q}
def Bm(K:PySem.W.Frag)(T:String)(x:V)(H:am):Prop:=match x with
 |.str _=>T= "str"
 |.int _=>T= "int"
 |.ref p=>(T= "list"/\∃xs,au K H p xs)\/(T= "tuple"/\∃o,K.lookup p=some o/\o.cls=.type "tuple"/\o.dict=none)\/
   (T= "dict"/\((∃kvs,H p=some (.b7 kvs))\/∃kvs,H p=some (.d6 kvs)))\/(T= "set"/\∃S n,H p=some (.set S n))
 |_=>False
def w9{aa:St}(I:Inv X pins aa H s)(r:RelV x v)(ty:Bm X.K T x H):
  s.TypeIs v T/\∀a,v=.ref a->∃d,s.heap.get? a=some d/\d.dict=none:=by
 cases x with
 |str z=>let(t,rfl):=r;cases(show T= "str" from ty);calc{typeIs_str s z t,λ_ e=>nomatch e}
 |int i=>let(t,rfl):=r;cases(show T= "int" from ty);calc{typeIs_int s i t,λ_ e=>nomatch e}
 |ref p=>
  cases r;rcases ty with⟨rfl,xs,f⟩|⟨rfl,o,ak,hc,hd⟩|⟨rfl,ak⟩|⟨rfl,S,n,ak⟩
  let(its,_,pl,_):=I.list f;refine{pl.isList.typeIs,λa e=>?_};cases e;let(o,n,e,c,hd,_):=pl;calc⟨o,e,hd⟩;refine{{o,I.kIn p o ak,hc},λa e=>?_};cases e;calc{o,I.kIn _ o ak,hd};have z:∃o,s.heap.get? p=some o/\o.ExactDict:=by
   rcases ak with⟨kvs,ak⟩|⟨kvs,ak⟩
   let(_,_,_,_,o,_,_,e,ex,_):=I.aS p _ ak;calc⟨o,e,ex⟩;let(_,_,_,_,o,_,_,e,ex,_):=I.aS p _ ak;exact⟨o,e,ex⟩
  let(o,e,ex):=z;refine{⟨o,e,ex.1⟩,λa b=>?_};cases b;calc⟨o,e,ex.2.1⟩;let(o,_,_,_,e,ex,_):=I.aS p _ ak;refine{⟨o,e,ex.1⟩,λa b=>?_};cases b;calc⟨o,e,ex.2.1⟩
 |_=>calc False.elim ty
def J0(K:PySem.W.Frag)(T:String)(r:V->List V->am->aE->Prop)(to:TE)(t:ci):TE:=λaa H Q=>to aa H λx H1=>Bm K T x H1/\t aa H1 λxs ai=>r x xs ai Q
variable {o e:Expr}{ay:List Expr}{to:TE}{t:ci}{name:Str}{apos cz:Pos}{T id:String}{r:V->List V->am->aE->Prop}
def J1(j:PlainAttrs T)(slot:Slot T name id)(f:typeOf (.builtin id)=pure (.type "method_descriptor"))(k:hb X id r)(l:aH X o to)(m:dF X (e::ay) t)
  (b:attributeBase o name X.env (eval o X.env)=eval o X.env:=by rfl)
  (d:((backTo cz (starEach (e::ay) X.env)).all (λx=> !x.1)&&(backToKw cz (keywordEach [] X.env)).all (λx=>x.1.isSome)
   &&decide ((e::ay).length+([]:List Keyword).length+(if([]:List Keyword).isEmpty then 0 else 1)<30))=true:=by rfl)
  (c:(apos.endLine==cz.line)=true:=by rfl) (hs:starEach (e::ay) X.env=(false,eval e X.env)::starEach ay X.env:=by rfl) (a:(backTo cz (starEach ay X.env)).any (·.1)=false:=by rfl):
  aH X (.Call (.Attribute o name apos) (e::ay) [] cz) (J0 X.K T r to t):=by
 intro pins s aa H Q I h;refine wpAny_Call_method_late b d c rfl (aW (l pins s aa H _ I h) λv s1 zz=>?_);let(x,H1,aA,g,ty,n):=zz;let(ae,ag):=w9 aA g ty;refine{T,id,j,slot,f,ae,ag,?_};have i:=m cz pins s1 aa H1 _ aA n;rw[hs]at i⊢;refine Zj (by grind) (aab ?_);exact aW i λus p zz=>by let(vs,ai,q,u,w):=zz;calc k pins p aa ai x vs v us Q q g u w
end
def tF(X:aR)(id:String)(r:V->List V->am->aE->Prop):Prop:=
 ∀pins s(aa:St)H x xs v us Q,Inv X pins aa H s->RelV x v->a0 xs us->r x xs H Q->
  wpAny (model X.prog X.w) X.A (call (.builtin id) (v::us)) (en X pins aa Q) X.xe s
def a0.one:∀{x:V}{us:List Value},a0 [x] us->∃u,us=[u]/\RelV x u|_,_,.cons r .nil=>{_,rfl,r}
def a0.zero:∀{us:List Value},a0 [] us->us=[]|_,.nil=>rfl
def a0.dropLast(h:a0 xs us):a0 xs.dropLast us.dropLast:=by
 induction h with|nil=>calc .nil|cons r t a=>
  cases t with|nil=>calc .nil|cons q t'=>calc .cons r a
theorem a0.rep(h:a0 xs us):∀k,a0 (List.replicate k xs).flatten (List.replicate k us).flatten|0=>.nil|k+1=>by calc a0.append h (a0.rep h k)
def J2{α:Type}(l:List α):l.eraseIdx (l.length-1)=l.dropLast:=by simp
theorem foldl_rep its:∀k(acc:List Value),
  List.foldl (λa b=>a++b) acc.toArray (List.replicate k its.toArray)=(acc++(List.replicate k its).flatten).toArray
 |0,acc=>by simp|k+1,acc=>by
  have e:acc.toArray++its.toArray=(acc++its).toArray:=by simp
  have c:(acc++its)++(List.replicate k its).flatten=acc++(List.replicate (k+1) its).flatten:=by grind
  rw[<-c,<-foldl_rep its k (acc++its),<-e,YS,Yk]
section
variable {X:aR}{pins:List (Addr×Obj)}{aa:St}{H:am}{s:Shared}{l b:Addr}{xs ys zs:List V}
def Inv.lset{its its':List Value}(I:Inv X pins aa H s)(a:H l=some (.lst xs))
  (e:s.heap.get? l=some {cls:=.type "list",data:=.seq its.toArray n}) (b:f its.toArray=its'.toArray) (c:a0 ys its') (hz:ys.length<=sizeLine):
  Inv X pins aa (upd H l (.lst ys)) {s with heap:=s.heap.update l (Obj.mapSeq f),toks:=t'}:=by
 have q:=PySem.IsL.update e f;rw[b]at q;refine I.write (by rw[a];calc trivial) (.inl rfl) (λh u d g=>(X7 s.heap (Obj.mapSeq f) (XE d)).trans g) {_,q} ?_;calc{hz,its',_,c,q}
def Inv.lnew(I:Inv X pins aa H s)(a:a0 ys its)(hz:ys.length<=sizeLine):
  Inv X pins aa (upd H s.heap.objs.size (.lst ys)) {s with heap:=s.heap.push {cls:=.type "list",data:=.seq its.toArray},toks:=t'}:=
 I.laid (λ_ _ q=>W4 _ q) (W2 _) {hz,its,0,a,Xy _ rfl}
def Inv.fresh(I:Inv X pins aa H s):H s.heap.objs.size=none:=I.aS.fresh (W2 _)
def Inv.lstM(I:Inv X pins aa H s)(a:H l=some (.lst xs)):xs.length<=sizeLine/\∃its n,a0 xs its/\xs.length=its.length/\s.heap.get? l=some {cls:=.type "list",data:=.seq its.toArray n}:=by let(z,its,n,r,e):=I.aS l _ a;calc⟨z,its,n,r,r.length,e⟩
def w_(h:n<=sizeLine):Builtin.List.listTooLong n=false:=by calc Xl (by nofun)
end
section
variable {X:aR}
def J3:V->List V->am->aE->Prop:=λx vs H Q=>∃l xs y,x=.ref l/\vs=[y]/\H l=some (.lst xs)/\xs.length<sizeLine/\Q .bb (upd H l (.lst (xs++[y])))
def J4:tF X "list.append" J3:=by intro pins s aa H x vs v us Q I b c h;let(l,xs,y,rfl,rfl,a,hz,q):=h;cases b;let(u,rfl,d):=c.one;let(z,its,n,r,hl,e):=I.lstM a;refine aal F.slot_list_append {_,e,rfl} F.entry_list_append (F.args_list_append_2 _ _) (PySem.list_append l its.toArray n u (by nofun)) {e,?_};refine{.bb,_,I.lset a e (by simp) (r.append (.cons d .nil)) ?_,rfl,q};erw[WI,XA];lia
def J5:V->List V->am->aE->Prop:=λx vs H Q=>∃l b xs zs,x=.ref l/\vs=[.ref b]/\H l=some (.lst xs)/\H b=some (.lst zs)/\xs.length+zs.length<=sizeLine/\Q .bb (upd H l (.lst (xs++zs)))
def J6:tF X "list.extend" J5:=by
 intro pins s aa H x vs v us Q I f g h;let(l,b,xs,zs,rfl,rfl,d,i,hz,q):=h;cases f;let(u,rfl,j):=g.one;cases j;let(z,its,n,r,hl,e):=I.lstM d;let(t,a,k,m,o,p):=I.lstM i;have hsz:its.toArray.size+a.toArray.size<=sizeLine:=by erw[W_,W_];nofun
 have c:¬(!its.toArray.isEmpty&&Builtin.List.listTooLong (its.toArray.size+a.toArray.size))=true:=by rw[w_ hsz,abC];exact W9
 refine aal aaG {_,e,rfl} F.entry_list_extend (F.args_list_extend_2 _ _)
  (AutoSeq1.list_extend_list_list_0 l its.toArray n b a.toArray k c (by nofun) (by lia)) {e,p,?_}
 refine{.bb,_,I.lset d e (by simp) (r.append m) ?_,rfl,q};rw[WI];omega
def J7:V->List V->am->aE->Prop:=λx vs H Q=>∃l xs y,x=.ref l/\vs=[]/\H l=some (.lst xs)/\xs[xs.length-1]? =some y/\Q y (upd H l (.lst xs.dropLast))
def J8:tF X "list.pop" J7:=by
 intro pins s aa H x vs v us Q I d f h;let(l,xs,y,rfl,rfl,c,g,q):=h;cases d;have a:=f.zero;subst a;let(z,its,n,r,hl,e):=I.lstM c;let(u,i,j):=r.get g;have b:its.toArray[its.toArray.size-1]? =some u:=by show its.toArray[its.length-1]? =some u;rwa[<-Array.getElem?_toList,<-hl]
 refine aal F.slot_list_pop {_,e,rfl} F.entry_list_pop (F.args_list_pop_1 _) (MeetsSeq.list_pop_last l its.toArray n u b (by rw[W_];nofun)) {e,?_};refine{y,_,I.lset c e ?_ r.dropLast ?_,j,q};rw[W_,List.eraseIdxIfInBounds_toArray,J2];rw[List.length_dropLast];lia
def J9:dr:=λx y H Q=>∃l b xs zs,x=.ref l/\y=.ref b/\H l=some (.lst xs)/\H b=some (.lst zs)/\xs.length+zs.length<=sizeLine/\∀p,H p=none->Q (.ref p) (upd H p (.lst (xs++zs)))
def J_:cI X (binaryOp .Add) J9:=by
 intro pins s aa H x y v u Q I c d h;let(l,b,xs,zs,rfl,rfl,f,g,hz,q):=h;cases c;cases d;let(z,its,n,r,hl,e):=I.lstM f;let(o,a,p,i,j,k):=I.lstM g;refine PySem.P.add_list e k ?_ (by nofun);have m:its.toArray++a.toArray=(its++a).toArray:=by simp
 rw[m];calc{.ref _,_,I.lnew (t':=s.toks) (r.append i) (by nofun),rfl,q _ I.fresh}
def J':dr:=λx y H Q=>∃l k xs,x=.ref l/\y=.int k/\H l=some (.lst xs)/\ -(2^63)<=k/\k<2^63/\xs.length*k.toNat<=sizeLine/\
 ∀p,H p=none->Q (.ref p) (upd H p (.lst (List.replicate k.toNat xs).flatten))
def len_rep{α:Type}(xs:List α)k:(List.replicate k xs).flatten.length=k*xs.length:=by nofun
def Ka:cI X (binaryOp .Mult) J':=by
 intro pins s aa H x y v u Q I o p h;let(l,k,xs,rfl,rfl,w,ae,ag,hz,q):=h;cases o;let(t,rfl):=p;let(z,its,n,r,hl,e):=I.lstM w;have c:its.toArray.size*k.toNat<=sizeLine:=by rw[W_,<-hl];exact hz
 have d:¬its.toArray.size*k.toNat>(2^63-1)/8:=by
  have:(sizeLine:Nat)<=(2^63-1)/8:=by decide
  lia
 have f:¬(!Builtin.List.listFitsIndex k)=true:=by rw[fitsIndex_both ae ag];exact W9
 have b:¬Builtin.List.listTooLong (its.toArray.size*k.toNat)=true:=by rw[w_ c];exact W9
 have g:List.foldl (λi j=>i++j) #[] (List.replicate (if its.toArray.isEmpty=true then 0 else k.toNat) its.toArray)=(List.replicate k.toNat its).flatten.toArray:=by
  have A:∀m:Nat,List.foldl (λi j=>i++j) #[] (List.replicate m its.toArray)=(List.replicate m its).flatten.toArray:=λm=>by have:=foldl_rep its m [];rw[Yb]at this;exact this
  rw[A];cases its with
  |nil=>simp
  |cons a B=>simp
 refine wpAny_binaryOp_repeat_ref (T:= "list") (U:= "int") (by decide) {_,e,rfl} (λs'=>typeIs_int s' k t) noFill_list_mul F.fills_int_mul F.slot_int_rmul repeat_list F.slot_int_index.lookup
  (aal F.slot_int_rmul (typeIs_int s k t) F.entry_int_rmul (F.args_int_rmul_2 _ _) (int___rmul___int_list k t l its.toArray n)
   {e,rfl,{_,e,rfl},aal F.slot_list_mul {_,e,rfl} F.entry_list_mul (F.args_list_mul_2 _ _) (AutoListH.list___mul___list_int_3 l its.toArray n k t f d b) {e,?_}})
 rw[g];calc{.ref _,_,I.lnew (t':=s.toks) (r.rep k.toNat) (by rw[len_rep,abR];calc hz),rfl,q _ I.fresh}
end
theorem a0.ints:∀{ns:List Int}{us:List Value},a0 (ns.map V.int) us->IntsAre us ns
 |[],us,h=>by cases h;calc IntsAre.nil|n::ns,us,h=>by
  cases h with|cons r t=>let(k,rfl):=r;calc IntsAre.cons n k (a0.ints t)
theorem Bn:∀{us:List Value}{ns:List Int},IntsAre us ns->a0 (ns.map V.int) us|_,_,.nil=>by calc Paired.nil|_,_,.cons n t h=>by exact Paired.cons (show RelV (V.int n) (Value.int n t)from⟨t,rfl⟩) (Bn h)
theorem a0.w':∀{bs:List Bool}{us:List Value},a0 (bs.map V.aG) us->us=bs.map Value.bool
 |[],us,h=>by cases h;rfl|b::bs,us,h=>by
  cases h with|cons r t=>cases r;erw[a0.w' t,WU]
def a0.oX(r:a0 [V.ref a] us):us=[Value.ref a]:=by
 cases r with|cons r t=>cases t;cases r;rfl
section
variable {prog:Program}{w:World}{A:Around}{E:Value->Shared->Prop}{s:Shared}{l:Addr}{its:List Value}{ns:List Int}{Q:Value->Shared->Prop}
def Kb(aI:A.handled=none)(hl:s.heap.IsList l its.toArray)(af:IntsAre its ns)
  (h:∀h' tk t',(∀b o,s.heap.get? b=some o->h'.get? b=some o)->Q (.int ns.sum t') {s with heap:=h',toks:=tk}):wpAny (model prog w) A (call (.builtin "sum") [.ref l]) Q E s:=by
 let(xs,e):=af.allInts.items;have a:numsOf (intItems xs).toList=ns:=by rw[<-e];exact af.numsOf
 rw[nums_intItems]at a;rw[e]at hl;refine PySem.sum_intListG aI hl λh' tk t' ak=>?_;have:=h h' tk t' ak;rwa[preSum_eq,aba (by simp),a]
end
section
variable {X:aR}
def Bo(K:PySem.W.Frag):List V->am->aE->Prop:=λvs H Q=>∃(a:Addr)(ns:List Int),vs=[V.ref a]/\au K H a (ns.map V.int)/\Q (.int ns.sum) H
def Kc(hc:X.calm=true):dT X (.builtin "sum") (Bo X.K):=by intro pins s aa H vs us Q I r h;let(a,ns,rfl,hs,q):=h;let(its,b,hl,_):=I.list hs;rw[a0.oX r];calc Kb (I.ok.hd hc) hl.isList b.ints λh' tk t' ak=>{.int _,H,I.kept ak,{_,rfl},q}
def Bp(K:PySem.W.Frag):List V->am->aE->Prop:=λvs H Q=>∃(a:Addr)(ns:List Int),vs=[V.ref a]/\au K H a (ns.map V.int)/\ns.length<64/\
 ∀(b:List Int)p,b.Perm ns->b.Pairwise (· <=·)->H p=none->Q (.ref p) (upd H p (.lst (b.map V.int)))
def Kd(h:n<64):n<=sizeLine:=by rw[WJ];lia
def Ke:dT X (.builtin "sorted") (Bp X.K):=by
 intro pins s aa H vs us Q I r h;let(a,ns,rfl,hs,c,q):=h;let(its,f,hl,_):=I.list hs;rw[a0.oX r];have af:=f.ints;refine PyProof.Rows.sorted_ints hl.isList af (by rwa[af.length]) λout b ae ag g=>?_;let(i,e):=PyProof.Rows.sortedAll_at s.heap its out;have d:(b.map V.int).length<=sizeLine:=by rw[WC,ag.length_eq];exact Kd c
 calc{.ref _,upd H (s.heap.objs.size+1) (.lst (b.map V.int)),I.laid (λ_ _=>PyProof.Rows.sortedAll_old) (aaq _) {d,out.toList,i,Bn ae,e},rfl,q b _ ag g (I.aS.fresh (aaq _))}
def Kf(K:PySem.W.Frag):V->List V->am->aE->Prop:=λx xs H Q=>∃(a:Addr)(ys:List V)(y:V)(j:Nat)(z:V),x=V.ref a/\xs=[y]/\au K H a ys/\hQ y=true/\ys.all hQ=true/\ys[j]? =some z/\ip z y=true/\
 (∀m b,m<j->ys[m]? =some b->ip b y=false)/\Q (.int j) H
def Bq{ys:List V}(f:ys.all hQ=true){j:Nat}(h:ys[j]? =some z):hQ z=true:=XD.mp f z (WS h)
def Kg:hb X "list.index" (Kf X.K):=by
 intro pins s aa H x xs v us Q I D e h;let(a,ys,y,j,z,rfl,rfl,hs,E,b,hz,f,g,q):=h;cases D;cases e with
 |cons F rt=>
  rename_i G U;cases rt;let(its,d,z0,C):=I.list hs;let(z1,n,B,hc,J,hd):=z0;let(cls,dd,data,a3):=z1;simp only at hc hd;subst hc hd;let(u,K,L):=d.get hz;let(i,k):=WH.mp K;have M:=d.length;have N:j<its.toArray.size:=by omega
  have O:=WJ;refine aal aaX {_,B,rfl} PySem.F.entry_list_index (PySem.F.args_list_index_2 _ _)
   (SeqAt.list_indexAt a its.toArray n dd a3 G (gn y) j N (by lia) ?_ ?_) {B,λP l=>oW F E d b P (by nofun),?_}
  ·have o:its.toArray[j]=u:=by simpa using k
   rw[o,tE L (Bq b hz)];exact f
  ·intro m R p
   have S:m<its.length:=by simpa using R
   have r:m<ys.length:=by nofun
   have c:ys[m]? =some ys[m]:=WK r;let(T,t,w):=d.get c;let(_,A):=WH.mp t;have o:its.toArray[m]=T:=by simpa using A
   rw[o,tE w (Bq b c)];exact g m _ p c
  ·calc{.int (j:Nat),H,I.tok _,{_,rfl},q}
end
def Br(hl:s.heap.IsList l items)
  (h:∀a:Shared,a= {s with heap:=s.heap.push {cls:=.type "list_iterator",data:=.fields #[.ref l,.int 0 0]}}->
   (a.heap.IsListIter s.heap.objs.size l 0/\a.heap.IsList l items)->l≠s.heap.objs.size->Q (.ref s.heap.objs.size) a):wpAny (model prog w) A (pyIter (.ref l)) Q E s:=by
 have b:l<s.heap.objs.size:=by let(_,e,_):=hl;exact W' e
 calc wpAny_pyIter_list hl (h _ rfl {{_,Xy _ rfl,rfl,rfl},hl.push _} (Xz b))
def Bs {prog:Program}{w:World}{A:Around}{bs:List Bool}{its:List Value} (e:its=bs.map Value.bool):
  TruthOf prog w A (λi v=>its.toArray[i]? =some v) (λi=>bs.getD i false):=λi v s Q E d f=>by
 have a:its[i]? =some v:=by nofun
 rw[e,WG]at a;let(b,g,rfl):=XQ.mp a;have h:bs.getD i false=b:=by nofun<;>rfl
 have c:Q (bs.getD i false) s:=f;rw[h]at c;calc YD c
theorem any_range:∀bs:List Bool,(List.range bs.length).any (λi=>bs.getD i false)=bs.any id
 |[]=>rfl|b::bs=>by
  simp only[WL,abb,Yx,List.any_map,Yx,<-any_range bs];all_goals rfl
theorem all_range:∀bs:List Bool,(List.range bs.length).all (λi=>bs.getD i false)=bs.all id
 |[]=>rfl|b::bs=>by
  simp only[WL,abb,aaW,List.all_map,aaW,<-all_range bs];all_goals rfl
section
variable {X:aR}
def Bt(K:PySem.W.Frag):List V->am->aE->Prop:=λvs H Q=>∃(a:Addr)(bs:List Bool),vs=[V.ref a]/\au K H a (bs.map V.aG)/\Q (.aG (bs.any id)) H
def Bu(K:PySem.W.Frag):List V->am->aE->Prop:=λvs H Q=>∃(a:Addr)(bs:List Bool),vs=[V.ref a]/\au K H a (bs.map V.aG)/\Q (.aG (bs.all id)) H
def Kh(hc:X.calm=true):dT X (.builtin "any") (Bt X.K):=by
 intro pins s aa H vs us Q I r h;let(a,bs,rfl,hs,q):=h;let(its,g,hl,_):=I.list hs;rw[a0.oX r];have d:=g.w';refine call_any_walk (Br hl.isList λe i st c=>?_);subst i;refine{_,_,_,_,_,_,_,rfl,Walks.list (A:=X.A.in1) (I.ok.hd hc) _ a c its.toArray,st,Bs d,λh' tk ak=>?_};refine{.aG _,H,I.kept λb o f=>ak b o (λkp=>?_) (W4 _ f),?_,q};rcases WW.mp kp with j|kp
 calc absurd (j▸W' f) (Yn _);nofun;show Value.bool _=Value.bool _;rw[<-any_range,d,W_,WC]
def Ki(hc:X.calm=true):dT X (.builtin "all") (Bu X.K):=by
 intro pins s aa H vs us Q I r h;let(a,bs,rfl,hs,q):=h;let(its,g,hl,_):=I.list hs;rw[a0.oX r];have d:=g.w';refine call_all_walk (Br hl.isList λe i st c=>?_);subst i;refine{_,_,_,_,_,_,_,rfl,Walks.list (A:=X.A.in1) (I.ok.hd hc) _ a c its.toArray,st,Bs d,λh' tk ak=>?_};refine{.aG _,H,I.kept λb o f=>ak b o (λkp=>?_) (W4 _ f),?_,q};rcases WW.mp kp with j|kp
 calc absurd (j▸W' f) (Yn _);nofun;show Value.bool _=Value.bool _;rw[<-all_range,d,W_,WC]
end
mutual
inductive eN (K:PySem.W.Frag) (H:am):V->PyData->Prop
 |bb:eN K H .bb .none
 |aG (b:Bool):eN K H (.aG b) (.bool b)
 |int (i:Int):eN K H (.int i) (.int i)
 |str (x:Str):eN K H (.str x) (.str x)
 |lst {a:Addr}{xs:List V}{ds:List PyData}:au K H a xs->m7 K H xs ds->eN K H (.ref a) (.list ds)
 |tup {a:Addr}{xs:List V}{ds:List PyData}:bJ K H a xs->m7 K H xs ds->eN K H (.ref a) (.tuple ds)
inductive m7 (K:PySem.W.Frag) (H:am):List V->List PyData->Prop
 |nil:m7 K H [] []
 |cons {v:V}{vs:List V}{d:PyData}{ds:List PyData}:eN K H v d->m7 K H vs ds->m7 K H (v::vs) (d::ds)
end
section
variable {X:aR}{pins:List (Addr×Obj)}{aa:St}{H:am}{s:Shared}
mutual
theorem eN.reads (I:Inv X pins aa H s):∀(d:PyData)(v:V)(u:Value),eN X.K H v d->RelV v u->∃as,Reads s.heap u d as
 |.none,_,_,h,r=>by cases h;cases r;calc{_,Reads.none}
 |.bool b,_,_,h,r=>by cases h;cases r;calc{_,Reads.bool b}
 |.int i,_,_,h,r=>by cases h;let(t,rfl):=r;calc{_,Reads.int i t}
 |.str x,_,_,h,r=>by cases h;let(t,rfl):=r;calc{_,Reads.str x t}
 |.list ds,_,_,h,r=>by
  cases h with
  |lst hs df=>cases r;let(its,m8,z,_):=I.list hs;let(o,n,cF,hc,_,hd):=z;let(as,bF):=eN.readsAll I ds _ its df m8;calc{_,Reads.list cF hc hd bF}
 |.tuple ds,_,_,h,r=>by
  cases h with
  |tup hs df=>cases r;let(its,m8,z0,_):=I.tuple hs;let(o,cF,hc,n,hd):=z0;let(as,bF):=eN.readsAll I ds _ its df m8;calc{_,Reads.tuple cF hc hd bF}
 |.dict _,_,_,h,_=>by cases h
theorem eN.readsAll (I:Inv X pins aa H s):∀(ds:List PyData)(vs:List V)(us:List Value),m7 X.K H vs ds->a0 vs us->∃as,ReadsAll s.heap us ds as
 |[],_,_,h,r=>by cases h;cases r;calc{_,ReadsAll.nil}
 |d::ds,_,_,h,r=>by
  cases h with
  |cons ae ag=>
   cases r with
   |cons r1 r2=>let(as,fp):=eN.reads I d _ _ ae r1;let(bs,eB):=eN.readsAll I ds _ _ ag r2;exact{_,ReadsAll.cons fp eB}
end
end
section
variable {X:aR}
def tG(K:PySem.W.Frag):dr:=λx y H Q=>∃d e,eN K H x d/\eN K H y e/\SeqAt.shaped d=true/\SeqAt.shaped e=true/\Q (.aG (PyData.eqv d e)) H
def xa(K:PySem.W.Frag):dr:=λx y H Q=>∃d e,eN K H x d/\eN K H y e/\SeqAt.shaped d=true/\SeqAt.shaped e=true/\Q (.aG (!PyData.eqv d e)) H
def Kj(a:X.A.units+64<cLine):cI X (compareOp .Eq) (tG X.K):=by intro pins s aa H x y v u Q I b c h;let(d,e,hd,f,g,i,q):=h;let(as,j):=eN.reads I d x v hd b;let(bs,k):=eN.reads I e y u f c;calc SeqAt.compareEq_shaped j k g i a {.aG _,H,I,rfl,q}
def Kk(a:X.A.units+64<cLine):cI X (compareOp .NotEq) (xa X.K):=by intro pins s aa H x y v u Q I b c h;let(d,e,hd,f,g,i,q):=h;let(as,j):=eN.reads I d x v hd b;let(bs,k):=eN.reads I e y u f c;calc SeqAt.compareNe_shaped j k g i a {.aG _,H,I,rfl,q}
end
abbrev Bv(h:Heap)(c:Addr)(v:Option Value):Prop:=h.IsCell c v
def Kl(a sc:Scope):Scope:=
 {a with names:=a.names.map λ(n,k)=>if(k== .free&&sc.kind== .function&&sc.names.lookup n==some .cell)then(n,.cell)else(n,k)}
def e3(cells:List (Str×Addr)):List (Str×NameKind)->List (Str×Addr)->List (Str×Addr)|[],acc=>acc|(n,k)::r,acc=>if k== .free then e3 cells r ((n,(cells.lookup n).getD 0)::acc)else e3 cells r acc
theorem Bw(env:Env)(f:Str×NameKind->List (Str×Addr)->Sem (ForInStep (List (Str×Addr))))
  (b:∀n k c,f (n,k) c=if k== .free then(do let a<-cellOf env n;pure (.yield ((n,a)::c)))else pure (.yield c)):
  ∀(names:List (Str×NameKind))(acc:List (Str×Addr)),(∀y∈names,y.2=.free->∃c,env.cells.lookup y.1=some c)->forIn names acc f=pure (e3 env.cells names acc)
 |[],acc,_=>by erw[List.forIn_nil];rfl
 |(n,k)::r,acc,h=>by
  rw[List.forIn_cons,b];have d:=λacc=>Bw env f b r acc λy g=>h y (WE _ g);unfold e3;by_cases ak:(k==NameKind.free)=true;rw[WO ak,WO ak];let(c,hc):=h (n,k) WD (by simpa using ak);have e:cellOf env n=pure c:=by unfold cellOf;rw[hc]
  rw[e];have i:(env.cells.lookup n).getD 0=c:=by rw[hc];rfl
  rw[i];calc d _;nofun
def Km(h:∀y∈a.names,y.2=.free->∃c,env.cells.lookup y.1=some c):closureFor a env=pure (e3 env.cells a.names []):=by erw[closureFor];rw[Bw env _ (λn k c=>rfl) a.names [] h];rfl
theorem mem_lookup{α:Type}:∀{l:List (Str×α)}{n:Str}{c:α},(n,c)∈l->∃a,l.lookup n=some a
 |(k,v)::r,n,c,h=>by
  rw[YA];cases b:n==k with|true=>simp|false=>
   rcases WW.mp h with e|h;nofun;calc mem_lookup h
theorem tH:∀{names:List (Str×NameKind)}{acc:List (Str×Addr)}{n:Str}{c:Addr},(n,c)∈e3 cells names acc->(n,c)∈acc\/((n,.free)∈names/\c=(cells.lookup n).getD 0)
 |[],_,_,_,h=>.inl h
 |(m,k)::r,acc,n,c,h=>by
  unfold e3 at h;split at h;rename_i ak;have ak:k=.free:=by nofun
  rcases tH h with h|⟨ae,ag⟩
  grind;grind;rcases tH h with h|⟨ae,ag⟩
  nofun;grind
theorem xb:∀{names:List (Str×NameKind)}{acc:List (Str×Addr)}{p:Str×Addr},p∈acc->p∈e3 cells names acc|[],_,_,h=>h|(m,k)::r,acc,p,h=>by unfold e3;split;calc xb (WE _ h);calc xb h
theorem xc:∀{names:List (Str×NameKind)}{acc:List (Str×Addr)}{n:Str},(n,.free)∈names->(n,(cells.lookup n).getD 0)∈e3 cells names acc
 |(m,k)::r,acc,n,h=>by
  unfold e3;rcases WW.mp h with e|h;cases e;calc xb WD;split;calc xc h;calc xc h
theorem rl:∀{names:List (Str×NameKind)}{h:Heap}{acc:List (Str×Addr)}{x:Str}{c:Addr},(x,c)∈cellsFrom h.objs.size names acc->
  (x,c)∈acc\/((x,.cell)∈names/\h.objs.size<=c/\Bv (pushCells h names) c none)
 |[],_,_,_,_,h=>.inl h
 |(n,k)::r,h,acc,x,c,hm=>by
  unfold cellsFrom at hm;unfold pushCells;split at hm;rename_i ak;rw[WO ak];have ak:k=.cell:=by nofun
  rw[<-Ym h {cls:=.type "cell",data:=.cell none}]at hm;rcases rl hm with hm|⟨ae,ag,a⟩
  rcases WW.mp hm with e|hm
  cases e;calc .inr {ak▸WD,W2 _,_,aas r _ _ _ (Xy _ rfl),rfl};nofun;rw[Ym]at ag;calc .inr {WE _ ae,ZY ag,a};rename_i ak;rw[WM ak];rcases rl hm with hm|⟨ae,ag,a⟩
  nofun;nofun
theorem tI:∀{names:List (Str×NameKind)}{n:Nat}{acc:List (Str×Addr)}{p:Str×Addr},p∈acc->p∈cellsFrom n names acc|[],_,_,_,h=>h|(m,k)::r,n,acc,p,h=>by unfold cellsFrom;split;calc tI (WE _ h);calc tI h
theorem xd:∀{names:List (Str×NameKind)}{n:Nat}{acc:List (Str×Addr)}{x:Str},(x,.cell)∈names->∃c,(x,c)∈cellsFrom n names acc
 |(m,k)::r,n,acc,x,h=>by
  unfold cellsFrom;rcases WW.mp h with e|h;cases e;calc{n,tI WD};split;calc xd h;calc xd h
theorem xf:∀ {names:List (Str×NameKind)}{h:Heap}{acc:List (Str×Addr)}{x y:Str}{c:Addr},(∀p∈acc,p.2<h.objs.size)->(∀x y c,(x,c)∈acc->(y,c)∈acc->x=y)->
  (x,c)∈cellsFrom h.objs.size names acc->(y,c)∈cellsFrom h.objs.size names acc->x=y
 | [],_,_,_,_,_,_,af,ae,ag=>af _ _ _ ae ag
 |(n,k)::r,h,acc,x,y,c,hl,af,ae,ag=>by
  unfold cellsFrom at ae ag;split at ae
  ·rename_i ak
   rw[WO ak]at ag;rw[<-Ym h {cls:=.type "cell",data:=.cell none}]at ae ag;refine xf (h:=h.push _) (λp a8=>?_) (λx y c a b=>?_) ae ag
   ·rw[Ym]
    rcases WW.mp a8 with rfl|a8
    ·simp
    ·grind
   ·grind
  ·rename_i ak
   rw[WM ak]at ag;calc xf hl af ae ag
def Kn{code:Value}
  (h:Q (newEnv a s.heap.objs.size e (cellsFrom (s.heap.objs.size+1) a.names b) qual g code (some f) d)
   {s with heap:=pushCells (s.heap.push {cls:=.type "dict",data:=.dict #[]}) a.names}):
  wpAny M A (newFunctionEnv a e b [] qual g code (some f) d) Q E s:=by
 erw[newFunctionEnv,ZO,Z4];refine wpAny_bind (wpAny_alloc ?_);refine wpAny_bind (wpAny_layCells _ (λn k c=>rfl) a.names b _ _ ?_);rw[show({s with heap:=s.heap.push {cls:=.type "dict",data:=.dict #[]}}:Shared).heap.objs.size=s.heap.objs.size+1 from Ym ..];calc wpAny_bind (wpAny_pure (wpAny_pure h))
theorem xg{sc:Scope}:∀{names:List (Str×NameKind)}{x:Str}{k:NameKind},
  (names.map λ(n,k)=>if(k==NameKind.free&&sc.kind== .function&&sc.names.lookup n==some .cell)then(n,NameKind.cell)else(n,k)).lookup x=some k->
  ∃c,names.lookup x=some c/\(k=c\/(c=.free/\k=.cell))
 |[],_,_,h=>by simp at h
 |(n,a)::r,x,k,h=>by
  have d:=@xg sc r x k;have h':List.lookup x ((if(a==NameKind.free&&sc.kind== .function&&sc.names.lookup n==some .cell)=true then(n,NameKind.cell)else(n,a))::(r.map _))=some k:=h;cases b:x==n with
  |true=>refine{a,by simp[List.lookup,b],?_};split at h'<;>simp_all[List.lookup]
  |false=>let(c,e,f):=d (by split at h'<;>simpa[List.lookup,b]using h');exact{c,by simp[List.lookup,b,e],f}
structure rm(N:List Str)(sc scope:Scope)(own:List (Str×Nat)):Prop where
 kind:scope.kind=.function
 uniq:∀y∈scope.names,scope.names.lookup y.1=some y.2
 Ko:∀p∈own,N[p.2]? =some p.1
 free:∀y∈scope.names,y.2=.free->sc.names.lookup y.1=some .cell\/sc.names.lookup y.1=some .free
 own:∀y∈scope.names,y.2=.local\/y.2=.cell->y.1∈own.map (·.1)\/y.1∉N
def wipe(aa:St):List Nat->St|[]=>aa|v::vs=>(wipe aa vs).set v none
theorem xh aa:∀vs,(wipe aa vs).length=aa.length|[]=>rfl|v::vs=>by unfold wipe;rw[aar,xh aa vs]
theorem xi {aa:St}{i:Nat}{x:V}:∀ {vs:List Nat},(wipe aa vs)[i]? =some (some x)->aa[i]? =some (some x)/\i∉vs
 | [],h=>{h,by simp}
 |v::vs,h=>by
  unfold wipe at h;by_cases af:v=i
  ·grind
  ·rw[X6 af]at h
   let(ae,ag):=xi h;exact{ae,by (nofun;lia)}
abbrev aR.fC(X:aR)(s:Shared)(H:am)(a:Scope)(b:Env)(c:List Addr):aR:= {X with s_0:=s,H_0:=H,env:=b,outer:=X.stack,ex:=c,fn:=λx=>a.names.lookup x==some .cell,pn:=[],xe:=λ_ _=>False}
section
variable {X:aR}{pins:List (Addr×Obj)}{aa:St}{H:am}{s:Shared}
def Kp{K:List Addr}(I:Inv X pins aa H s)(ok:rm X.N X.env.scope d own)(O:X.N.Nodup)(h:∀b∈K,il X pins H b/\b<s.heap.objs.size):
  Inv (X.fC s H d (compEnvC d (cellsFrom (s.heap.objs.size+1) d.names (e3 X.env.cells d.names [])) s.heap.objs.size X.env) K) [] (wipe aa (own.map (·.2))) H {s with heap:=pushCells (s.heap.push {cls:=.type "dict",data:=.dict #[]}) d.names}:=by
 have x:∀y∈d.names,y.2=.free->∃c,X.env.cells.lookup y.1=some c:=λy aN e=>by
  rcases ok.free y aN e with k|k
  calc I.ok.has _ (.inl k);exact I.ok.has _ (.inr k)
 generalize f:compEnvC d (cellsFrom (s.heap.objs.size+1) d.names (e3 X.env.cells d.names [])) s.heap.objs.size X.env=dV;have cL:∀b o,s.heap.get? b=some o->(pushCells (s.heap.push {cls:=.type "dict",data:=.dict #[]}) d.names).get? b=some o:=λb o e=>aas _ _ _ _ (W4 _ e);have G:dV.locals=s.heap.objs.size:=by rw[<-f];rfl
 have g:dV.cells=cellsFrom (s.heap.objs.size+1) d.names (e3 X.env.cells d.names []):=by rw[<-f];rfl
 have A:dV.scope=Kl d X.env.scope:=by rw[<-f];rfl
 rw[<-Ym s.heap {cls:=.type "dict",data:=.dict #[]}]at g;have D:∀{y c},(y,c)∈e3 X.env.cells d.names []->X.env.cells.lookup y=some c/\c<s.heap.objs.size:=λ{y c}j=>by
  rcases tH j with j|⟨ae,rfl⟩
  cases j;let(c,hc):=x _ ae rfl;rw[hc];let(w,z):=I.cell _ _ hc;exact⟨rfl,z.lt⟩
 have mem:∀{y c},dV.cells.lookup y=some c->(X.env.cells.lookup y=some c/\c<s.heap.objs.size)\/(s.heap.objs.size+1<=c/\Bv (pushCells (s.heap.push {cls:=.type "dict",data:=.dict #[]}) d.names) c none):=λ{y c}e=>by
  rw[g]at e;rcases rl (XG e)with j|⟨_,ag,P⟩
  calc .inl (D j);rw[Ym]at ag;exact .inr ⟨ag,P⟩
 have look:∀{y},d.names.lookup y=some .free->∃c,dV.cells.lookup y=some c/\X.env.cells.lookup y=some c:=λ{y}hl=>by
  have aN:(y,NameKind.free)∈d.names:=XG hl;let(J,gM):=mem_lookup (tI (names:=d.names) (n:=(s.heap.push {cls:=.type "dict",data:=.dict #[]}).objs.size) (xc (cells:=X.env.cells) (acc:=[]) aN));rw[<-g]at gM;refine{J,gM,?_};rw[g]at gM;rcases rl (XG gM)with j|⟨ae,_⟩
  calc(D j).1;have:=ok.uniq _ ae;rw[hl]at this;cases this
 have L:(X.fC s H d dV K).Ok:=by
  refine{I.ok.mod,by show dV.scope.kind=_;rw[A];calc ok.kind,by show dV.globals=_;rw[<-f];calc I.ok.glob,by show dV.builtins=_;rw[<-f];calc I.ok.blt,by show s.heap.objs.size<=dV.locals;rw[G];calc W2 _,
   λy z c t u=>?_,λy aN=>?_,λy c z e=>?_,I.ok.hd,I.ok.frames,.inl rfl,λb v=>{?_,λy c e z=>?_},I.bs,W1 I.ok.hI I.sz,λb o e v=>?_,λb v z=>?_,I.stack,I.stkFree}
  have t:dV.cells.lookup y=some c:=t;have u:dV.cells.lookup z=some c:=u;rw[g]at t u;refine xf (λp C=>?_) (λy z c a b=>I.ok.inj y z c (D a).1 (D b).1) (XG t) (XG u);rw[Ym];calc aaO (D C).2;show∃c,dV.cells.lookup y=some c;have key:∀k,dV.kindOf y=some k->(k=.cell\/k=.free)->∃c,dV.cells.lookup y=some c:=λk ak B=>by
   unfold Env.kindOf at ak;rw[A]at ak;let(lH,e,r):=xg ak;have:lH=.cell\/lH=.free:=by
    rcases r with rfl|⟨rfl,_⟩
    calc B;exact .inr rfl
   rcases this with rfl|rfl
   rcases xd (n:=(s.heap.push {cls:=.type "dict",data:=.dict #[]}).objs.size) (acc:=e3 X.env.cells d.names []) (XG e) with⟨c,j⟩;let(J,gM):=mem_lookup j;exact{J,by rw[g];calc gM};let(c,ae,_):=look e;exact⟨c,ae⟩
  rcases aN with aN|aN
  calc key _ aN (.inl rfl);calc key _ aN (.inr rfl);have z:d.names.lookup y=some .cell:=by simpa using z
  have e:dV.cells.lookup y=some c:=e;rw[g]at e;rcases rl (XG e)with j|⟨_,ag,_⟩
  rcases tH j with j|⟨ae,_⟩
  cases j;have q:=ok.uniq _ ae;rw[z]at q;cases q;rw[Ym]at ag;calc ZY ag;show b≠dV.locals;rw[G];calc Xz (h b v).2;have e:dV.cells.lookup y=some c:=e;rcases mem e with⟨ae,_⟩|⟨ae,_⟩
  calc(h b v).1.2.2.2.2.1 y c ae z;have ag:s.heap.objs.size+1<=b:=by rw[<-z];exact ae
  calc absurd (Xq (h b v).2 (ZY ag)) (Yn _);rcases(h b v).1.2.2.2.1 with z|z
  calc I.ok.mX b o e z;calc absurd (Xq (W' e) (W1 I.ok.hI z)) (Yn _);rcases WW.mp (I.stkSub b z)with z|z
  calc(h b v).1.2.1 z;exact(h b v).1.2.2.1 z
 refine{L,rfl,I.bare,cK.kept cL,{λ_=>none,?_,λi y Q t u cS=>?_},λy c e=>?_,?_,λy c e=>?_,λp C=>?_,I.aS.kept cL,by rw[xh];calc I.len};show Heap.Ns _ dV.locals _;rw[G];calc Heap.Ns.keeps (Heap.Ns.new ..) λb o e=>aas _ _ _ _ e;let(u,M):=xi u;have l:d.names.lookup y=some .free/\(dV.kindOf y=some .cell\/dV.kindOf y=some .free):=by
  have key:∀k,dV.scope.names.lookup y=some k->k=.local\/k=.cell\/k=.free->d.names.lookup y=some .free/\(dV.kindOf y=some .cell\/dV.kindOf y=some .free):=λk ak B=>by
   have E:=ak;rw[A]at ak;let(lH,e,r):=xg ak;have no:¬(lH=.local\/lH=.cell):=λaI=>by
    rcases ok.own _ (XG e) aI with gM|gM
    let(p,C,N):=WT.mp gM;have cS:=ok.Ko p C;have:p.1=y:=N;rw[this]at cS;calc M (WT.mpr {p,C,tm O cS t});exact gM (WS t)
   rcases r with rfl|⟨rfl,rfl⟩
   rcases B with rfl|rfl|rfl
   calc absurd (.inl rfl) no;calc absurd (.inr rfl) no;calc{e,.inr E};exact{e,.inl E}
  have cS:oI dV.scope y:=cS;rcases cS with cS|cS|cS
  calc key _ cS (.inl rfl);calc key _ cS (.inr (.inl rfl));exact key _ cS (.inr (.inr rfl))
 let(m,R,hl):=I.loc;let(w,r,q):=hl i y Q t u ((ok.free _ (XG l.1) rfl).elim (λk=>.inr (.inl k)) λk=>.inr (.inr k));refine{w,r,.inr {l.2,?_}};let(c,ae,ag):=look l.1;rcases q with⟨k,_⟩|⟨_,J,gM,z⟩
 have k:X.env.scope.names.lookup y=some .local:=k;rcases ok.free _ (XG l.1) rfl with lH|lH<;>rw[show X.env.scope.names.lookup y=_ from lH]at k<;>cases k
 rw[ag]at gM;cases gM;calc{c,ae,z.keeps cL};have e:dV.cells.lookup y=some c:=e;rcases mem e with⟨ae,_⟩|⟨_,z⟩
 let(w,z):=I.cell y c ae;calc{w,z.keeps cL};calc{_,z};show H dV.locals=none;rw[G];calc I.aS.fresh (W2 _);rcases mem e with⟨ae,_⟩|⟨ae,_⟩
 calc I.fy y c ae;calc I.aS.fresh (ZY ae);exact absurd (show p∈([]:List (Addr×Obj))++[]from C) (by simp)
def Kq(I:Inv X pins aa H s)(c:H D=some (.lst xs))(hz:xs.length<sizeLine)(r:RelV y v)
  (h:∀s',Inv X pins aa (upd H D (.lst (xs++[y]))) s'->Q .none s'):wpAny (model X.prog X.w) X.A (call (.builtin "list.append") [.ref D,v]) Q E s:=by
 let(f,its,n,d,e):=I.aS D _ c;have hl:=d.length;refine append_at (hsz:=by rw[W_];nofun) e λh' dR a=>?_;refine h {s with heap:=h'} (I.write (t':=s.toks) (by rw[c];trivial) (.inl rfl) (λb u g q=>(dR.2 b g).trans q) {_,a} {by grind,its++[v],n+1,d.append (.cons r .nil),?_});erw[a];simp
def rn(X:aR)(a:List Expr)(t:TT):Prop:=
 ∀pins s(aa:St)H Q,Inv X pins aa H s->t aa H Q->
  wpAny (model X.prog X.w) X.A (forIn a true λc r=>if r=true then do let ok<-isTrue c X.env (eval c X.env);pure (ForInStep.yield ok)else pure (ForInStep.yield r)) (wI X pins aa Q) X.xe s
def kq:TT:=λ_ H Q=>Q true H
def dh:rn X [] kq:=λ_ _ _ H _ I h=>wpAny_tests_nil ⟨H,I,h⟩
def oY(h:fY X c t):rn X [c] t:=λpins s aa H Q I a=>wpAny_tests_one (h pins s aa H Q I a)
end
def oZ{t:Sem α}{Q b:α->Shared->Prop}(h:wpAny M A t Q (λ_ _=>False) s)(c:∀a s,Q a s->b a s):wpAny M A t b E s:=Yi h c λ_ _ z=>False.elim z
def Kr(I:Nat->Shared->Prop)
  (turn:∀n s,I n s->wpAny (model prog w) A (pyNext it) (λr d=>match r with
   |none=>R (.ok .next) d
   |some v=>wpAny (model prog w) A (letOwnedTupleGo a it v) (λ_ f=>wpAny (model prog w) A (assign a env v) (λ_ j=>
     wpAny (model prog w) A (forIn t true λc r=>if r=true then do let ok<-isTrue c env (eval c env);pure (ForInStep.yield ok)else pure (ForInStep.yield r)) (λok g=>
      if ok=true then wpAny (model prog w) A (eval q env) (λx k=>wpAny (model prog w) A (call (.builtin "list.append") [acc,x]) (λ_ l=>∃m,m<n/\I m l) (notedBy (model prog w) A env λe s'=>R (.error e) s') k) (notedBy (model prog w) A env λe s'=>R (.error e) s') g
      else∃m,m<n/\I m g) (notedBy (model prog w) A env λe s'=>R (.error e) s') j) (notedBy (model prog w) A env λe s'=>R (.error e) s') f) (notedBy (model prog w) A env λe s'=>R (.error e) s') d) (notedBy (model prog w) A env λe s'=>R (.error e) s') s)
  (n:Nat) (h:I n s):
  codeAny (model prog w) A (.compLoop (.ListComp q [{a,i,t,0}] b pos) 0 it acc env) R s:=by
 refine codeAny_loop rfl I (λn s C=>?_) n h;show wpAny _ A ((compTurn (.ListComp q [{a,i,t,0}] b pos) 0 it acc env).onRaise (λx=>do noteFrame x env;theTreesLotGoes x)) _ _ s;refine wpAny_noted ?_;rw[compTurn_list];refine wpAny_bind (aad (wpAny_bind (Yi (turn n s C) (λr d o=>?_) λ_ _ h'=>h')));cases r with
 |none=>calc wpAny_pure o
 |some v=>
  refine wpAny_bind (Yi o (λ_ f u=>?_) λ_ _ h'=>h');refine wpAny_bind (Yi u (λ_ j y=>wpAny_bind (Yi y (λok g p=>?_) λ_ _ h'=>h')) λ_ _ h'=>h');cases ok with
  |false=>calc wpAny_pure ⟨rfl,p⟩
  |true=>calc wpAny_bind (wpAny_bind (Yi p (λx k z=>wpAny_bind (Yi z (λ_ l B=>wpAny_pure (wpAny_pure ⟨rfl,B⟩)) λ_ _ h'=>h')) λ_ _ h'=>h'))
section
variable {X:aR}
def hR(h:TI)(g:eM)(tt:TT)(te:TE)(vs:List Nat):TE:=λaa H Q=>h aa H λJ H1=>∀D,H1 D=none->∃W:Nat->Nat->am->Prop,(∃m,W 0 m (upd H1 D (.lst [])))/\∀i m H,W i m H->
 (J.stop i H/\Q (.ref D) H)\/(J.go i H/\∃c:am->Prop,(∀aj,c aj->∃d,d<m/\W (i+1) d aj)/\∀x aj,J.hL i H x aj->g x (wipe aa vs) aj λa ai=>wipe a vs=wipe aa vs/\tt a ai λb e=>if b=true then te a e λy f=>∃acc,f D=some (.lst acc)/\acc.length<sizeLine/\c (upd f D (.lst (acc++[y])))else c e)
def Bx {pins:List (Addr×Obj)}{s:Shared}{aa:St}{H:am}{Q:aE}{A bK t:Expr}{B:List Expr}{a:Scope}{own:List (Str×Nat)}{pos pos':Pos}{By:TI}{g:eM}{tt:TT}{te:TE}{use:Option (Value->Sem Unit)}{Qf:Value->Shared->Prop}
  (hc:X.calm=true) (e2:X.N.Nodup) (I:Inv X pins aa H s) (af:hM X bK t By) (ok:rm X.N X.env.scope a own)
  (dW:∀(s:Shared) (H:am) (C:Addr) (cl:List (Str×Addr)) (f:List Addr),ik (X.fC s H a (compEnvC a cl C X.env) f) bK g) (bW:∀(s:Shared) (H:am) (C:Addr) (cl:List (Str×Addr)) (f:List Addr),rn (X.fC s H a (compEnvC a cl C X.env) f) B tt)
  (he:∀(s:Shared) (H:am) (C:Addr) (cl:List (Str×Addr)) (f:List Addr),aH (X.fC s H a (compEnvC a cl C X.env) f) A te) (hs:∀x,foldedSetIterable t X.env x=pure x)
  (h:hR By g tt te (own.map (·.2)) aa H Q)
  (Ks:∀D C s' m aj,Inv X pins aa aj s'->Q (.ref D) aj->s'.heap.Ns C m->il X pins aj C->compPost (model X.prog X.w) X.A X.xe use Qf (.ref D) C (.ok .next) s'):
  wpAny (model X.prog X.w) X.A (comprehension (.ListComp A [{bK,t,B,0}] a pos) a X.env pos' (newList []) false (eval t X.env) use) Qf X.xe s:=by
 have K:∀y∈a.names,y.2= .free->∃c,X.env.cells.lookup y.1=some c:=λy aN e=>by
  rcases ok.free y aN e with k|k
  ·exact I.ok.has _ (.inl k)
  ·exact I.ok.has _ (.inr k)
 refine wpAny_comprehension_free (use:=use) rfl hs (Km K) ok.kind (λy aN e=>by rw[ok.uniq y aN,e])
  (aW (af pins s aa H _ I h) λUQ s1 aB=>aW aB λJb O ag=>?_)
 let(it,f,im,J,ai,e,oR,T,U,f2,q):=ag;subst e;refine wpAny_newObj_type (Kn ?_) (by show 0<=sizeLine;decide);generalize dx:O.heap.objs.size=D;have xj:ai D=none:=oR.aS.fresh (aaF dx);let(W,z0,turn):=q D xj;let(m0,jv):=z0;generalize V:({O with heap:=O.heap.push {cls:=.type "list",data:=.seq ([]:List Value).toArray}}:Shared)=d;have o1:Inv X pins aa (upd ai D (.lst [])) d:=by
  simp only[<-V];refine oR.laid (t':=O.toks) (λb o e=>W4 _ e) (aaF dx) {Xk _,[],0,.nil,?_};rw[<-dx];exact Xy _ rfl
 have bR:d.heap=O.heap.push {cls:=.type "list",data:=.seq ([]:List Value).toArray}:=by grind
 have sz:∀b∈f,b<O.heap.objs.size:=λb l=>by
  let(o,e,_):=T.obj _ _ U b l;exact W' e
 have L:∀b∈f,il X pins (upd ai D (.lst [])) b/\b<d.heap.objs.size:=λb l=>by
  have Y:=sz b l;refine{{?_,(f2 b l).2},by rw[bR,Ym];calc aaO Y};rw[aK (by grind)];exact(f2 b l).1
 have Kt:im 0 d.heap:=T.keep _ _ _ U λb _ o e=>by rw[bR];exact W4 _ e
 have oS:=Kp o1 ok e2 L;have jw:=dW d (upd ai D (.lst [])) d.heap.objs.size (cellsFrom (d.heap.objs.size+1) a.names (e3 X.env.cells a.names [])) f;have pt:=bW d (upd ai D (.lst [])) d.heap.objs.size (cellsFrom (d.heap.objs.size+1) a.names (e3 X.env.cells a.names [])) f;have xk:=he d (upd ai D (.lst [])) d.heap.objs.size (cellsFrom (d.heap.objs.size+1) a.names (e3 X.env.cells a.names [])) f;show codeAny _ _ (.compStart (.ListComp A [{bK,t,B,0}] a pos) 0 (.ref it) (.ref D) (compEnvC a (cellsFrom (d.heap.objs.size+1) a.names (e3 X.env.cells a.names [])) d.heap.objs.size X.env)) (compPost (model X.prog X.w) X.A X.xe use Qf (.ref D) d.heap.objs.size) {d with heap:=pushCells (d.heap.push {cls:=.type "dict",data:=.dict #[]}) a.names};have Z:∀b∈f,(upd ai D (.lst [])) b=none:=λb l=>(L b l).1.1;generalize Ku:compEnvC a (cellsFrom (d.heap.objs.size+1) a.names (e3 X.env.cells a.names [])) d.heap.objs.size X.env=ce at oS jw pt xk⊢;have Bz:ce.locals=d.heap.objs.size:=by subst Ku;rfl
 generalize UR:upd ai D (.lst [])=bU at o1 oS jw pt xk jv Z L;generalize Kv:({d with heap:=pushCells (d.heap.push {cls:=.type "dict",data:=.dict #[]}) a.names}:Shared)=s4 at oS⊢;have BA:im 0 s4.heap:=T.keep _ _ _ Kt λb _ o e=>by rw[<-Kv];exact aas _ _ _ _ (W4 _ e)
 have w:∀ {σ':St}{aj:am}{s':Shared},Inv (X.fC d bU a ce f) [] σ' aj s'->(∀b∈f,aj b=none)->∀b∈f,il (X.fC d bU a ce f) [] aj b:=λ{σ' aj s'} P R b l=>
  {R b l,(P.ok.oK b l).1,P.ok.lA b l,.inl l,λx c e=>(P.ok.oK b l).2 x c e,λp a8=>absurd (show p∈([]:List (Addr×Obj))++[] from a8) (by simp)}
 have F:codeAny (model X.prog X.w) X.A (.compLoop (.ListComp A [{bK,t,B,0}] a pos) 0 (.ref it) (.ref D) ce) (compPost (model X.prog X.w) X.A X.xe use Qf (.ref D) d.heap.objs.size) s4:=by
  refine Kr (λn s'=>∃i aj,Inv (X.fC d bU a ce f) [] (wipe aa (own.map (·.2))) aj s'/\im i s'.heap/\(∀b∈f,aj b=none)/\W i n aj) ?_ m0 {0,bU,oS,BA,Z,jv}
  rintro n s5 ⟨i,M,ki,BB,hg,tJ⟩
  rcases turn i n M tJ with⟨stop,Kw⟩|⟨go,Kx,Ky,step⟩
  ·have fR:=T.done (X.fC d bU a ce f) rfl rfl rfl hc i [] s5 _ M (λ_ _=>False) ki (w ki hg) BB stop
   refine oZ fR λr c1 zz=>?_;let(bF,S):=zz;subst bF;have o2:Inv X pins aa M c1:=o1.call' (ch:=f) S.os S.base S.aS S.bare λb l=>{(L b l).1.2.2.2.1,(L b l).1.2.1,(L b l).1.2.2.2.2.1,(L b l).1.2.2.2.2.2};have ro:M d.heap.objs.size=none:=by
    have z:M ce.locals=none:=S.free;rw[Bz]at z;exact z
   let(m,R,_):=S.loc;have R:c1.heap.Ns ce.locals m:=R;rw[Bz]at R;exact Ks D d.heap.objs.size c1 m M o2 Kw R (o1.fpOk (W2 _) ro)
  ·have Kz:=T.item (X.fC d bU a ce f) rfl rfl rfl hc i [] s5 _ M (λ_ _=>False) ki (w ki hg) BB go
   refine oZ Kz λr c1 zz=>?_;let(u,bF,dy):=zz;subst bF;refine oZ dy λ_ dG zz=>?_;let(x,gp,o2,r7,KA,N,o3):=zz;have KC:=o2.pinned (w o2 o3) (T.obj _ _ N);refine oZ (jw _ dG _ gp x u _ KC r7 (step x gp KA)) λ_ iq zz=>?_;let(E,gP,KD,BC,KE):=zz;refine oZ (pt _ iq E gP _ KD KE) λb gQ zz=>?_;let(lI,BD,tK):=zz;have fin:∀ {s':Shared}{aj:am},Inv (X.fC d bU a ce f) ([]++q8 f dG.heap) E aj s'->Kx aj->∃m,m<n/\∃i aj,Inv (X.fC d bU a ce f) [] (wipe aa (own.map (·.2))) aj s'/\im i s'.heap/\(∀b∈f,aj b=none)/\W i m aj:=λ{s' aj} P nx=>by
    let(h9,hm,KG):=Ky aj nx;have G:∀b∈f,∀o,dG.heap.get? b=some o->s'.heap.get? b=some o/\aj b=none:=λb l o e=>
     let z:=P.pin (b,o) (WZ _ (WZ _ (wW l e)))
     ⟨z.1,z.2.1⟩
    have hl:(wipe aa (own.map (·.2))).length=E.length:=by rw[<-BC,xh]
    refine{h9,hm,i+1,aj,(P.unpinned (pins:=[])).weak hl (λj v e=>?_),T.keep _ _ _ N λb l o e=>(G b l o e).1,λb l=>?_,KG}
    ·rw[<-BC]at e
     exact(xi e).1
    ·let(o,e,_):=T.obj _ _ N b l
     exact(G b l o e).2
   cases b with
   |false=>
    simp only[aaH,abu]at tK⊢;calc fin BD tK
   |true=>
    simp only[Z4]at tK⊢;refine oZ (xk _ gQ E lI _ BD tK) λz xl zz=>?_;let(US,UT,KH,r10,acc,KI,KJ,nx):=zz;exact Kq (X:=X.fC d bU a ce f) KH KI KJ r10 λxm KL=>fin KL nx
 calc codeAny_compStart_list F (T.self X.A 0 _ _ _ BA F)
def dz(hc:X.calm=true)(l:X.N.Nodup)(af:hM X bK c k)(ok:rm X.N X.env.scope a own)
  (n:∀(s:Shared)(H:am)(C:Addr)(cl:List (Str×Addr))(j:List Addr),ik (X.fC s H a (compEnvC a cl C X.env) j) bK g) (p:∀(s:Shared)(H:am)(C:Addr)(cl:List (Str×Addr))(j:List Addr),rn (X.fC s H a (compEnvC a cl C X.env) j) i tt)
  (r:∀(s:Shared)(H:am)(C:Addr)(cl:List (Str×Addr))(j:List Addr),aH (X.fC s H a (compEnvC a cl C X.env) j) d te) (hs:∀x,foldedSetIterable c X.env x=pure x:=by intro _;rfl):
  aH X (.ListComp d [{bK,c,i,0}] a pos) (hR k g tt te (own.map (·.2))):=by
 intro pins s aa H Q I h;erw[eval_ListComp];refine Bx hc l I af ok n p r hs h λD C s' m aj t q u f=>{m,u,λf3 dR=>?_};let(v,w,E,y,z,A):=f;calc{.ref D,aj,t.turned (t':=s'.toks) (λb o B e=>(dR.2 b B).trans e) v w y z A,rfl,q}
def kr {i:Nat}{y:Str}{p:Pos}{k bK d:Expr}{j:List Expr}{c:Scope}{own:List (Str×Nat)}{pos i7:Pos}{r:TI}{g:eM}{tt:TT}{te:TE} (hc:X.calm=true) (A:X.N.Nodup) (F:X.N[i]? =some y) (l:X.env.scope.names.lookup y=some .local)
  (t:swapsWith (.ListComp k [{bK,d,j,0}] c pos) (some (.Name y p)) i7.line X.env=pure true) (af:hM X bK d r) (ok:rm X.N X.env.scope c own)
  (G:∀(s:Shared) (H:am) (C:Addr) (cl:List (Str×Addr)) (n:List Addr),ik (X.fC s H c (compEnvC c cl C X.env) n) bK g) (J:∀(s:Shared) (H:am) (C:Addr) (cl:List (Str×Addr)) (n:List Addr),rn (X.fC s H c (compEnvC c cl C X.env) n) j tt)
  (K:∀(s:Shared) (H:am) (C:Addr) (cl:List (Str×Addr)) (n:List Addr),aH (X.fC s H c (compEnvC c cl C X.env) n) k te) (hs:∀x,foldedSetIterable d X.env x=pure x:=by intro _;rfl):
  fz X (.Assign [.Name y p] (.ListComp k [{bK,d,j,0}] c pos) i7) (q7 (hR r g tt te (own.map (·.2))) (dg i)):=by
 intro pins s aa H D I h;rw[exec_Assign_Name_used _ _ _ _ t];refine wpAny_bind (aad (wpAny_bind ?_));show wpAny _ X.A (do let _<-comprehension (.ListComp k [{bK,d,j,0}] c pos) c X.env (firstIterPos [{bK,d,j,0}] pos) (newList []) false (eval d X.env) (some (assign (.Name y p) X.env))) _ _ s;have h:hR r g tt te (own.map (·.2)) aa H (λx H1=>dg i x aa H1 D.nx):=h
 refine wpAny_bind (aW (Bx (Qf:=λ_ s'=>kd X pins D .next s') hc A I af ok G J K hs h λL C s' m aj M q N f=>?_) λ_ s' O=>wpAny_pure (wpAny_pure O));show wpAny _ _ (assign (.Name y p) X.env (.ref L)) _ _ _;refine wpAny_assign_Name (AB (v:=V.ref L) M A F (.inl l) rfl (λP Q zz=>?_) (.inr l));let(a,dR,R):=zz;let(S,B,Y,T,E,U):=f;have u:C≠a:=by
  grind
 refine{m,N.sameBut dR u,λZ w=>?_};calc{_,aj,Q.turned (t':=P.toks) (λb o W e=>(w.2 b W).trans e) S B T E U,q}
def ks(ak:env.scope.kind=.function)(d:env.scope.names.lookup y=some .local)(hl:(c.line==pos.line)=true)
  (e:(a.names.any λ(n,k)=>n==y&&(k== .local||k== .cell))=false):swapsWith (.ListComp b cq a pos) (some (.Name y c)) l env=pure true:=by
 have f:env.kindOf y=some .local:=d;have g:env.blockKind=.function:=by unfold Env.blockKind;rw[ak];rfl
 unfold swapsWith;erw[g,f,e,show Expr.pos (.ListComp b cq a pos)=pos from rfl,hl];rfl
end
def BE(N:List Str)(sc a:Scope)(own:List (Str×Nat)):Bool:=
 (match a.kind with|.function=>true|_=>false)&&(a.names.all λy=>decide (a.names.lookup y.1=some y.2))&&(own.all λp=>decide (N[p.2]? =some p.1))&&
  (a.names.all λy=>match y.2 with
   |.free=>(match sc.names.lookup y.1 with|some .cell=>true|some .free=>true|_=>false)
   |.local=>decide (y.1∈own.map (·.1))||decide (y.1∉N)
   |.cell=>decide (y.1∈own.map (·.1))||decide (y.1∉N)
   |_=>true)
def cM(h:BE N sc a own=true):rm N sc a own:=by
 unfold BE at h;erw[Xd,XD,decide_eq_true_eq]at h;let(z,c):=h;let(z0,d):=z;let(ae,ag):=z0;refine{?_,ag,d,λy b e=>?_,λy b e=>?_};split at ae;omega;cases ae;have q:=c y b;simp[e]at q;split at q<;>first|exact .inl (by omega)|exact .inr (by omega)|cases q
 have q:=c y b;rcases e with e|e<;>(erw[e,Bool.or_eq_true,decide_eq_true_eq]at q;calc q)
section
variable {bS:Type} [DecidableEq bS]
def cr(kvs:List (bS×V))(k:bS):Option V:=(kvs.find? λa=>decide (a.1=k)).map (·.2)
def putK(kvs:List (bS×V))(k:bS)(v:V):List (bS×V):=
 if(kvs.any λa=>decide (a.1=k))=true then kvs.map (λa=>if a.1=k then(a.1,v)else a)else kvs++[(k,v)]
def BF(kvs:List (bS×V))(k:bS):List (bS×V):=kvs.filter λa=>decide (a.1≠k)
def i8{p:bS×V}(e:p.1=k):cr (p::r) k=some p.2:=by simp[cr,e]
def i9{p:bS×V}(e:¬p.1=k):cr (p::r) k=cr r k:=by simp[cr,e]
theorem m9 k:∀kvs:List (bS×V),(kvs.any λa=>decide (a.1=k))=(cr kvs k).isSome|[]=>rfl|p::r=>by rw[Yx];by_cases e:p.1=k;simp[i8 e,Xm e,ZO];erw[i9 e,Xl e,Bool.false_or];calc m9 k r
theorem BG(k j)y:∀kvs:List (bS×V),cr (kvs.map λa=>if a.1=k then(a.1,y)else a) j=(cr kvs j).map λx=>if j=k then y else x|[]=>rfl|p::r=>by have b:=BG k j y r;rw[WU];by_cases h:p.1=k;rw[WO h];by_cases e:p.1=j;rw[i8 (p:=(p.1,y)) e,i8 e,X2,WO (e.symm.trans h)];rw[i9 (p:=(p.1,y)) e,i9 e,b];rw[WM h];by_cases e:p.1=j;rw[i8 e,i8 e,X2,WM λz=>h (e.trans z)];rw[i9 e,i9 e,b]
theorem BH(k j)y:∀kvs:List (bS×V),cr kvs k=none->cr (kvs++[(k,y)]) j=if j=k then some y else cr kvs j
 |[],_=>by by_cases e:k=j;rw[WO e.symm];calc i8 e;rw[WM λz=>e z.symm];calc i9 e|p::r,a=>by
  rw[YN];have ak:¬p.1=k:=λz=>by rw[i8 z]at a;cases a
  rw[i9 ak]at a;have b:=BH k j y r a;by_cases e:p.1=j;rw[i8 e,i8 e,WM λz=>ak (e.trans z)];rw[i9 e,i9 e,b]
def jA(kvs:List (bS×V))(k j)y:cr (putK kvs k y) j=if j=k then some y else cr kvs j:=by
 unfold putK;by_cases a:(kvs.any λb=>decide (b.1=k))=true;rw[WO a,BG];rw[m9]at a;by_cases e:j=k;let(x,c):=ZJ.mp a;rw[WO e,e,c,X2,WO rfl];rw[WM e];cases cr kvs j with|none=>rfl|some x=>rw[X2,WM e]
 rw[WM a];refine BH k j y kvs ?_;rw[m9]at a;cases q:cr kvs k with|none=>rfl|some x=>nofun
def xn(kvs:List (bS×V))(k:bS)(v:V):(putK kvs k v).length<=kvs.length+1:=by unfold putK;split;simp;simp
def BI{kvs:List (bS×V)}v(h:cr kvs k=none):putK kvs k v=kvs++[(k,v)]:=by unfold putK;rw[m9,h];calc WM (by decide)
def eb.rp(r:eb o u):o.isSome=u.isSome:=by
 cases o with
 |none=>cases u with|none=>rfl|some _=>calc(show False from r).elim
 |some _=>cases u with|none=>calc(show False from r).elim|some _=>rfl
def de.val(r:de kvs vs)(k:bS):eb (cr kvs k) (valueAt vs k):=by
 induction r with|nil=>calc True.intro| @cons p q ps a h t d=>
  let(ae,ag):=h;by_cases e:p.1=k;have c:=ae.symm.trans e;have b:valueAt (q::a) k=some q.2:=by simp[valueAt,c]
  rwa[i8 e,b];have c:¬q.1=k:=λz=>e (ae.trans z);have b:valueAt (q::a) k=valueAt a k:=by simp[valueAt,c]
  rwa[i9 e,b]
def de.any {kvs:List (bS×V)}{vs:List (bS×Value)} (r:de kvs vs) (k:bS):(kvs.any λa=>decide (a.1=k))=vs.any λa=>decide (a.1=k):=by
 unfold de at r;induction r with
 |nil=>rfl
 |cons h t b=>nofun
def de.repl(r:de kvs vs)(k:bS)(b:RelV y u):
  de (kvs.map λa=>if a.1=k then(a.1,y)else a) (vs.map λa=>if a.1=k then(a.1,u)else a):=by
 induction r with|nil=>calc .nil| @cons p q ps d h t c=>refine .cons ?_ c;by_cases e:p.1=k;nofun;nofun
def de.put(r:de kvs vs)(k:bS)(a:RelV y u):de (putK kvs k y) (stored vs k u):=by unfold putK stored;rw[r.any k];by_cases e:(vs.any λb=>decide (b.1=k))=true;rw[WO e,WO e];calc r.repl k a;rw[WM e,WM e];calc Paired.snoc r ⟨rfl,a⟩
def de.drop(r:de kvs vs)(k:bS):de (BF kvs k) (without vs k):=by
 unfold BF without;induction r with|nil=>calc .nil| @cons p q ps f h t c=>
  let(ae,ag):=h;erw[List.filter_cons,List.filter_cons];by_cases e:p.1=k;nofun;have d:¬q.1=k:=λz=>e (ae.trans z);rw[WO (by simp[e]),WO (by simp[d])];calc .cons ⟨ae,ag⟩ c
def de.length(r:de kvs vs):kvs.length=vs.length:=Paired.length r
end
def o4(r:RelV (cb k) u):(gL P w).is k u=true:=by
 cases k with|inl i=>let(t,e):=(show∃t,u=Value.int i t from r);subst e;calc IN P w i t|inr x=>let(t,e):=(show∃t,u=Value.str x t from r);subst e;calc IP P w x t
theorem BJ:∀{a:List Key}{us:List Value},a0 (a.map cb) us->ItemsAre (gL P w) a us
 |[],_,r=>by cases r;calc .nil|k::a,_,r=>by
  cases r with|cons h t=>calc .cons (o4 h) (BJ t)
abbrev KT(H:am):List (List Key×V)->List (List Key×Addr×Value)->Prop:=Paired λp q=>p.1=q.1/\H q.2.1=some (.tup (p.1.map cb))/\RelV p.2 q.2.2
def KT.val(r:KT H kvs xs)k:eb (cr kvs k) ((atKey xs k).map (·.2)):=by
 induction r with|nil=>calc True.intro| @cons p q ps a h t d=>
  let(ae,_,ag):=h;by_cases e:p.1=k;have c:=ae.symm.trans e;have b:atKey (q::a) k=some q.2:=by simp[atKey,c]
  rwa[i8 e,b];have c:¬q.1=k:=λz=>e (ae.trans z);have b:atKey (q::a) k=atKey a k:=by simp[atKey,c]
  rwa[i9 e,b]
def KT.repl {H:am}{kvs:List (List Key×V)}{xs:List (List Key×Addr×Value)} (r:KT H kvs xs) (k:List Key) {y:V}{u:Value} (b:RelV y u):
  KT H (kvs.map λa=>if a.1=k then(a.1,y) else a) (xs.map (putAt k u)):=by
 induction r with
 |nil=>calc .nil
 | @cons p q ps f h t c=>
  erw[WU,WU];refine .cons ?_ c;let(ae,ag,d):=h;unfold putAt;by_cases e:p.1=k
  ·nofun
  ·nofun
def KT.put(r:KT H kvs xs)k(c:H b=some (.tup (k.map cb)))(a:RelV y u):
  KT H (putK kvs k y) (storedH xs k b u):=by
 have e:(kvs.any λd=>decide (d.1=k))=(atKey xs k).isSome:=by erw[m9,(r.val k).rp,aaP]
 unfold putK storedH;rw[e];by_cases q:(atKey xs k).isSome=true;rw[WO q,WO q];calc r.repl k a;rw[WM q,WM q];calc Paired.snoc r ⟨rfl,c,a⟩
def KT.keeps(r:KT H kvs xs)(a:∀b ys,H b=some (.tup ys)->aj b=some (.tup ys)):KT aj kvs xs:=
 Paired.mapP r λ_ _ z=>{z.1,a _ _ z.2.1,z.2.2}
section
variable {P:Program}{w:World}{H:am}{h:Heap}{a:Addr}
def BK(ok:cu P w H h)(e:iV H a u):cX P w H h a u:=e.ok ok
def rq(ok:cu P w H h)(e:iV H a (.b7 kvs)):kvs.length<=sizeLine/\(a==sysModules)=false/\∃vs,de kvs vs/\h.DictOf (gL P w) a vs:=
 show cX P w H h a (.b7 kvs)from BK ok e
def BL(ok:cu P w H h)(e:H a=some (.b7 kvs)):kvs.length<=sizeLine/\(a==sysModules)=false/\∃vs,de kvs vs/\h.DictOf (gL P w) a vs:=rq ok (.inl e)
def rr(ok:cu P w H h)(e:H a=some (.tup (b.map cb))):(tupleKind (gL P w)).is h b a:=by let(_,its,r,o,ae,ag,n,c):=(show cX P w H h a (.tup (b.map cb))from ok a _ e);exact{o,its.toArray,n,ae,ag,c,by simpa using BJ r}
def ru {kvs:List (List Key×V)} (ok:cu P w H h) (e:iV H a (.d6 kvs)):kvs.length<=sizeLine/\(a==sysModules)=false/\
  ∃xs,KT H kvs xs/\h.DictOfH (tupleKind (gL P w)) a xs:=by
 let(z,y,xs,r,o,ay,c,ae,ag,d,f,g):=(show cX P w H h a (.d6 kvs) from BK ok e);refine{z,y,xs,r,o,ay,c,ae,ag,d,f,λx aB=>?_,g};have all:∀ {l:List (List Key×V)}{m:List (List Key×Addr×Value)},KT H l m->∀x∈m,(tupleKind (gL P w)).is h x.1 x.2.1:=by
  intro l m q;induction q with
  |nil=>simp
  | @cons p q ps j b t i=>
   intro x aB;rcases WW.mp aB with e|aB
   ·subst e
    exact rr ok (by rw[<-b.1];calc b.2.1)
   ·simp[*]
 calc all r x aB
def KN(ok:cu P w H h)(e:H a=some (.d6 kvs)):kvs.length<=sizeLine/\(a==sysModules)=false/\
  ∃xs,KT H kvs xs/\h.DictOfH (tupleKind (gL P w)) a xs:=ru ok (.inl e)
end
def dA(H:am)(a:Addr)(y:V)(r:Option V):Prop:=
 (∃kvs k,iV H a (.b7 kvs)/\y=cb k/\r=cr kvs k)\/∃kvs k b,iV H a (.d6 kvs)/\y=.ref b/\H b=some (.tup (k.map cb))/\r=cr kvs k
def hS(H:am)(a:Addr)(y v:V)(aj:am):Prop:=
 (∃kvs k,H a=some (.b7 kvs)/\y=cb k/\kvs.length<sizeLine/\aj=upd H a (.b7 (putK kvs k v)))\/
 ∃kvs k b,H a=some (.d6 kvs)/\y=.ref b/\H b=some (.tup (k.map cb))/\kvs.length<sizeLine/\aj=upd H a (.d6 (putK kvs k v))
def dA.k{k:Key}(e:H a=some (.b7 kvs)):dA H a (cb k) (cr kvs k):=.inl {kvs,k,.inl e,rfl,rfl}
def dA.t{k:List Key}(e:H a=some (.d6 kvs))(c:H b=some (.tup (k.map cb))):dA H a (.ref b) (cr kvs k):=.inr {kvs,k,b,.inl e,rfl,c,rfl}
def hS.k{k:Key}(e:H a=some (.b7 kvs))(hl:kvs.length<sizeLine):hS H a (cb k) v (upd H a (.b7 (putK kvs k v))):=.inl ⟨kvs,k,e,rfl,hl,rfl⟩
def hS.t{k:List Key}(e:H a=some (.d6 kvs))(c:H b=some (.tup (k.map cb)))(hl:kvs.length<sizeLine):
  hS H a (.ref b) v (upd H a (.d6 (putK kvs k v))):=.inr ⟨kvs,k,b,e,rfl,c,hl,rfl⟩
section
variable {X:aR}{pins:List (Addr×Obj)}{aa:St}{H:am}{s:Shared}{a:Addr}{y v:V}{u r:Value}{o:Option V}{A:Around}{E:Value->Shared->Prop}
def Inv.big(I:Inv X pins aa H s):sysModules<s.heap.objs.size:=by have h:=(I.mod.glob.keeps I.bk).lt;calc YI (by decide) h
def KO(q:A.units+1<cLine)(I:Inv X pins aa H s)(g:dA H a y (some v))(n:RelV y u)(h:∀f s',Inv X pins aa H s'->RelV v f->Q f s'):
  wpAny (model X.prog X.w) A (getItem (.ref a) u) Q E s:=by
 rcases g with⟨kvs,k,e,i,l⟩|⟨kvs,k,b,e,i,r,l⟩;subst i;let(z,hd,vs,c,dd):=rq I.aS e;let(f,j,d):=eb.some_of (v:=v) (o:=valueAt vs k) (by rw[l];calc c.val k);calc wpAny_getItem_of (o4 n) dd.mapOf j (h f _ (I.tok _) d);subst i;cases(show u=Value.ref b from n);let(z,hd,xs,c,dd):=ru I.aS e;let(f,j,d):=eb.some_of (v:=v) (o:=(atKey xs k).map (·.2)) (by rw[l];calc c.val k);let(p,t,m):=XQ.mp j;refine wpAny_getItem_heap (ZP q) (rr I.aS r) dd t ?_;erw[m];calc h f _ (I.tok _) d
def KP(i:A.units+1<cLine)(I:Inv X pins aa H s)(g:dA H a y o)(f:RelV y u)(h:∀s',Inv X pins aa H s'->Q (.bool o.isSome) s'):
  wpAny (model X.prog X.w) A (compareOp .In u (.ref a)) Q E s:=by
 rcases g with⟨kvs,k,e,d,l⟩|⟨kvs,k,b,e,d,j,l⟩;subst d;let(z,hd,vs,c,dd):=rq I.aS e;refine wpAny_in_of (o4 f) hd dd.mapOf ?_;rw[<-(c.val k).rp,<-l];calc h _ (I.tok _);subst d;cases(show u=Value.ref b from f);let(z,hd,xs,c,dd):=ru I.aS e;refine wpAny_in_heap (ZP i) (rr I.aS j) hd dd ?_;have q:=(c.val k).rp;erw[aaP]at q;simp only[<-q,<-l];calc h _ (I.tok _)
def KQ(i:A.units+1<cLine)(I:Inv X pins aa H s)(g:dA H a y o)(f:RelV y u)(h:∀s',Inv X pins aa H s'->Q (.bool (!o.isSome)) s'):
  wpAny (model X.prog X.w) A (compareOp .NotIn u (.ref a)) Q E s:=by
 rcases g with⟨kvs,k,e,d,l⟩|⟨kvs,k,b,e,d,j,l⟩;subst d;let(z,hd,vs,c,dd):=rq I.aS e;refine wpAny_notIn_of (o4 f) hd dd.mapOf ?_;rw[<-(c.val k).rp,<-l];calc h _ (I.tok _);subst d;cases(show u=Value.ref b from f);let(z,hd,xs,c,dd):=ru I.aS e;refine wpAny_notIn_heap (ZP i) (rr I.aS j) hd dd ?_;have q:=(c.val k).rp;erw[aaP]at q;simp only[<-q,<-l];calc h _ (I.tok _)
def xo(I:Inv X pins aa H s)(f:q1 (H a))(hs:Heap.SameBut a s.heap h')(g:∃q,h'.get? a=some q)(d:cX X.prog X.w (upd H a c) h' a c):
  Inv X pins aa (upd H a c) {s with heap:=h',toks:=t'}:=
 I.write f (.inl rfl) (λb q h z=>(hs.2 b h).trans z) g d
def BM(z:kvs.length<=sizeLine)(hd:(a==sysModules)=false)(b:de kvs vs)(dd:h'.DictOf (gL P w) a vs):
  cX P w aj h' a (.b7 kvs):=⟨z,hd,vs,b,dd⟩
def KR(w:A.units+1<cLine)(I:Inv X pins aa H s)(g:hS H a y v aj)(n:RelV y u)(o:RelV v r)(h:∀s',Inv X pins aa aj s'->Q () s'):
  wpAny (model X.prog X.w) A (setItem (.ref a) u r) Q E s:=by
 rcases g with⟨kvs,k,e,j,l,m⟩|⟨kvs,k,b,e,j,p,l,m⟩;subst j m;let(z,hd,vs,d,dd):=BL I.aS e;have hz:vs.length<=sizeLine:=by rwa[<-d.length]
 have hl:(putK kvs k v).length<=sizeLine:=by have:=xn kvs k v;lia
 refine wpAny_setItem_pairs (hsz:=hz) (o4 n) dd λh' f hs=>h _ ?_;have x:∃q,h'.get? a=some q:=have⟨q,_,_,i,_⟩:=f;⟨q,i⟩;calc xo I (by rw[e];calc True.intro) hs x (BM hl hd (d.put k o) f);subst j m;cases(show u=Value.ref b from n);let(z,hd,xs,d,dd):=KN I.aS e;have hl:(putK kvs k v).length<=sizeLine:=by have:=xn kvs k v;lia
 refine wpAny_setItem_heap (hsz:=(by rwa[<-Paired.length d])) (ZP w) (rr I.aS p) dd λh' f hs=>h _ ?_;let(q,ay,B,i,ag,C,D,_,F):=f;refine xo I (by rw[e];calc True.intro) hs ⟨q,i⟩ {hl,hd,_,(d.put k p o).keeps λc ys t=>?_,q,ay,B,i,ag,C,D,F};rwa[aK (IQ t e λz=>nomatch z)]
end
def BN(i:Expr):Prop:=∀a b,subscripted i false a b=operate [a,b] (getItem a b)
def KS{T id:String}
  (hl:typeLookup (.type T) "__getitem__"=pure (some (.builtin id))) (hs:BN a)
  (h:wpAny (model prog w) A (eval value env) (λo d=>wpAny (model prog w) A (eval a env) (λi b=>b.TypeIs o T/\wpAny (model prog w) A (getItem o i) Q E b) E d) E s):
  wpAny (model prog w) A (eval (.Subscript value a pos) env) Q E s:=by
 refine Subscript_ (Yi h (λo d g=>Yi g (λi b c=>?_) λ_ _ x=>x) λ_ _ x=>x);let(k,c):=c;unfold subscriptTail;refine wpAny_bind ?_;rw[getitemInPython_of_ne k.not_modules];refine wpAny_bind (wpAny_specialOf k hl ?_);have f:wpAny (model prog w) A (subscripted a false o i) (λr e=>wpAny (model prog w) A (letTemporaryGo value o r>>=λ_=>pure r) Q E e) E b:=by rw[hs o i];exact wpAny_operating (Yi c (λr e j=>wpAny_bind (wpAny_letTemporaryGo (wpAny_pure j))) λ_ _ x=>x)
 first
  |exact wpAny_pure (wpAny_bind f)
  |exact wpAny_bind (wpAny_pure (wpAny_bind f))
  |exact wpAny_bind f
def KU{aa:St}(I:Inv X pins aa H s)(g:dA H a y o):s.TypeIs (.ref a) "dict":=by
 rcases g with⟨kvs,k,e,_⟩|⟨kvs,k,b,e,_,_⟩;let(_,_,vs,_,dd):=rq I.aS e;calc dd.typeIs;let(_,_,xs,_,dd):=ru I.aS e;calc dd.typeIs
def BO(fR ty:TE):TE:=λaa H Q=>fR aa H λx H1=>ty aa H1 λy ai=>∃a v,x=.ref a/\dA ai a y (some v)/\Q v ai
def BP(ty fR:TE):TE:=λaa H Q=>ty aa H λy H1=>fR aa H1 λx ai=>∃a o,x=.ref a/\dA ai a y o/\Q (.aG o.isSome) ai
def BQ(ty fR:TE):TE:=λaa H Q=>ty aa H λy H1=>fR aa H1 λx ai=>∃a o,x=.ref a/\dA ai a y o/\Q (.aG (!o.isSome)) ai
def BR(fR ty ea:TE):cy:=λD aa H=>ea aa H λv H1=>fR aa H1 λx ai=>ty aa ai λy c=>∃a b,x=.ref a/\hS c a y v b/\D.nx aa b
section
variable {X:aR}{o i e value:Expr}{pos pos' dN:Pos}{fR ty ea:TE}
def ku(d:X.A.units+1<cLine)(e:aH X o fR)(af:aH X i ty)(hs:BN i):aH X (.Subscript o i pos) (BO fR ty):=by refine λpins s aa H Q I h=>KS PySem.F.slot_dict_getitem.lookup hs (aW (e pins s aa H _ I h) λu s1⟨x,H1,aA,f,j⟩=>aW (af pins s1 aa H1 _ aA j) λn p zz=>?_);let(y,ai,c,k,a,v,ex,g,l):=zz;subst ex;obtain rfl:u=Value.ref a:=f;calc{KU c g,KO d c g k λq r m b=>⟨v,ai,m,b,l⟩}
def BS(b:X.A.units+1<cLine)(af:aH X i ty)(c:aH X o fR):tp X .In i o (BP ty fR):=by refine λpins s aa H Q I h=>aW (af pins s aa H _ I h) λn s1⟨y,H1,aA,d,e⟩=>aW (c pins s1 aa H1 _ aA e) λu p zz=>?_;let(x,ai,f,j,a,k,ex,g,l):=zz;subst ex;obtain rfl:u=Value.ref a:=j;calc KP b f g d λq m=>{.aG k.isSome,ai,m,rfl,l}
def m_(b:X.A.units+1<cLine)(af:aH X i ty)(c:aH X o fR):tp X .NotIn i o (BQ ty fR):=by refine λpins s aa H Q I h=>aW (af pins s aa H _ I h) λn s1⟨y,H1,aA,d,e⟩=>aW (c pins s1 aa H1 _ aA e) λu p zz=>?_;let(x,ai,f,j,a,k,ex,g,l):=zz;subst ex;obtain rfl:u=Value.ref a:=j;calc KQ b f g d λq m=>{.aG (!k.isSome),ai,m,rfl,l}
def m'(b:X.A.units+1<cLine)(c:aH X o fR)(af:aH X i ty)(d:aH X value ea)(hs:swapsWith value (some (.Subscript o i pos')) pos.line X.env=pure false):
  fz X (.Assign [.Subscript o i pos'] value pos) (BR fR ty ea):=by
 refine λpins s aa H D I h=>wpAny_Assign_Subscript (aW (d pins s aa H _ I h) λr s1⟨v,H1,aA,e,f⟩=>aW (c pins s1 aa H1 _ aA f) λu j⟨x,ai,k,l,m⟩=>aW (af pins j aa ai _ k m) λz A zz=>?_) hs;let(y,B,n,p,a,q,ex,g,t):=zz;subst ex;obtain rfl:u=Value.ref a:=l;calc KR b n g p e λC w=>⟨aa,q,w,t⟩
end
def BU(h:Heap)(a:sysModules<h.objs.size):cX P w H (h.push {cls:=.type "dict",data:=.dict #[]}) h.objs.size (.b7 []):=
 {Xk _,XP.mpr (XE (Xz a)),[],.nil,Heap.DictOf.new h}
def KV(h:Heap)(a:sysModules<h.objs.size):cX P w H (h.push {cls:=.type "dict",data:=.dict #[]}) h.objs.size (.d6 []):=
 {Xk _,XP.mpr (XE (Xz a)),[],.nil,_,#[],0,Xy _ rfl,⟨rfl,rfl,rfl⟩,rfl,rfl,Yd}
def BV:TE:=λ_ H Q=>∀p,H p=none->Q (.ref p) (upd H p (.b7 []))
def BW:TE:=λ_ H Q=>∀p,H p=none->Q (.ref p) (upd H p (.d6 []))
section
variable {X:aR}{pos:Pos}
def rv:aH X (.Dict [] [] pos) BV:=λpins s aa H Q I h=>wpAny_Dict_empty {.ref s.heap.objs.size,_,I.laid (λ_ _ q=>W4 _ q) (W2 _) (BU s.heap I.big),rfl,h _ (I.aS.fresh (W2 _))}
def KW:aH X (.Dict [] [] pos) BW:=λpins s aa H Q I h=>wpAny_Dict_empty {.ref s.heap.objs.size,_,I.laid (λ_ _ q=>W4 _ q) (W2 _) (KV s.heap I.big),rfl,h _ (I.aS.fresh (W2 _))}
end
def tL:List (TE×TE)->St->am->(List (V×V)->am->Prop)->Prop|[],_,H,Q=>Q [] H|(tk,ea)::r,aa,H,Q=>tk aa H λx H1=>ea aa H1 λy ai=>tL r aa ai λps a=>Q ((x,y)::ps) a
abbrev BX:List (V×V)->List (Value×Value)->Prop:=Paired λp q=>RelV p.1 q.1/\RelV p.2 q.2
def tM(X:aR)(pos:Pos)(keys:List (Option Expr))(a:List Expr)(b:List (TE×TE)):Prop:=
 ∀pins s(aa:St)H Q,Inv X pins aa H s->tL b aa H Q->
  wpAny (model X.prog X.w) X.A (evalPairs (pairTrees keys a X.env pos)) (λvs s'=>∃ps aj,Inv X pins aa aj s'/\BX ps vs/\Q ps aj) X.xe s
def KY:tM X pos [] [] []:=λpins s aa H Q I h=>pairTrees_nil_walk {[],H,I,.nil,h}
def KZ(ak:aH X k tk)(d:aH X v ea)(e:tM X pos c vs a):
  tM X pos (some k::c) (v::vs) ((tk,ea)::a):=λpins s aa H Q I h=>
 pairTrees_cons_walk (aW (ak pins s aa H _ I h) λu s1 zz=>by let(x,H1,aA,f,g):=zz;exact aW (d pins s1 aa H1 _ aA g) λq i zz=>by let(y,ai,j,l,m):=zz;exact aW (e pins i aa ai _ j m) λr t zz=>by let(ps,n,o,b,p):=zz;calc {(x,y)::ps,n,o,.cons ⟨f,l⟩ b,p})
def o5(kvs more:List (Key×V)):List (Key×V):=more.foldl (λacc a=>putK acc a.1 a.2) kvs
def de.merge:∀{more:List (Key×V)}{rs:List (Key×Value)}{kvs:List (Key×V)}{vs:List (Key×Value)},de more rs->de kvs vs->de (o5 kvs more) (merged vs rs):=by
 intro more rs kvs vs r;induction r generalizing kvs vs with|nil=>calc λq=>q| @cons p q ps c h t a=>
  intro b;have e:de (putK kvs p.1 p.2) (stored vs q.1 q.2):=by have:=b.put p.1 h.2;rwa[<-h.1]
  calc a e
theorem BY:∀(more kvs),(o5 kvs more).length<=kvs.length+more.length|[],kvs=>by show kvs.length<=kvs.length+0;nofun|p::r,kvs=>by have ae:=BY r (putK kvs p.1 p.2);have ag:=xn kvs p.1 p.2;show(o5 (putK kvs p.1 p.2) r).length<=_;erw[WL];lia
theorem BZ:∀{kvs:List (Key×V)}{d:List (Value×Value)},BX (kvs.map λe=>(cb e.1,e.2)) d->∃rs,Carries (gL P w) d rs/\de kvs rs
 |[],_,r=>by cases r;calc{[],True.intro,.nil}|p::kvs,_,r=>by
  cases r with| @cons a b as bs h t=>let(rs,c,q):=BZ (P:=P) (w:=w) t;let(g,f):=b;calc{(p.1,f)::rs,{o4 h.1,rfl,c},.cons ⟨rfl,h.2⟩ q}
def B0(a:List (TE×TE)):TE:=λaa H Q=>∀p,H p=none->tL a aa (upd H p (.b7 [])) λps ai=>ai p=some (.b7 [])/\∃kvs,ps=kvs.map (λb=>(cb b.1,b.2))/\kvs.length<=15/\Q (.ref p) (upd ai p (.b7 (o5 [] kvs)))
def K0(h:tM X pos keys b d)(f:keys.all (·.isSome)=true)(hl:keys.length=b.length)(l:keys≠ [])
  (i:keys.length<=15):aH X (.Dict keys b pos) (B0 d):=by
 intro pins s aa H Q I q;have m:=I.aS.fresh (W2 s.heap.objs.size);have aA:=I.laid (t':=s.toks) (λ_ _ q=>W4 _ q) (W2 _) (BU s.heap I.big);refine wpAny_Dict_walk (knd:=gL X.prog X.w) f hl l i (aW (h pins _ aa _ _ aA (q _ m)) λx y zz=>?_);let(ps,ai,k,j,e,kvs,n,lk,p):=zz;subst n;let(rs,c,r):=BZ (P:=X.prog) (w:=X.w) j;let(z,hd,t,u,dd):=BL k.aS e;cases u;refine{rs,c,dd,λh' g hs=>{.ref s.heap.objs.size,_,?_,rfl,p}};have hz:(o5 [] kvs).length<=sizeLine:=by have ae:=BY kvs [];rw[Yc]at ae;rw[WJ];lia
 have v:∃q,h'.get? s.heap.objs.size=some q:=have⟨q,_,_,a9,_⟩:=g;⟨q,a9⟩;calc xo k (by rw[e];calc True.intro) hs v (BM hz hd (r.merge .nil) g)
structure kx(X:aR)(o:Expr)(m:Str)(apos:Pos)(e:Expr)(cz:Pos):Prop where
 base:attributeBase o m X.env (eval o X.env)=eval o X.env
 bj:((backTo cz (starEach [e] X.env)).all (λx=> !x.1)&&(backToKw cz (keywordEach [] X.env)).all (λx=>x.1.isSome)
  &&decide (([e]:List Expr).length+([]:List Keyword).length+(if([]:List Keyword).isEmpty then 0 else 1)<30))=true
 line:(apos.endLine==cz.line)=true
 trees:backTo cz (starEach [e] X.env)=[(false,eval e X.env)]
structure M2(X:aR)(o:Expr)(m:Str)(apos:Pos)(e f:Expr)(cz:Pos):Prop where
 base:attributeBase o m X.env (eval o X.env)=eval o X.env
 bj:((backTo cz (starEach [e,f] X.env)).all (λx=> !x.1)&&(backToKw cz (keywordEach [] X.env)).all (λx=>x.1.isSome)
  &&decide (([e,f]:List Expr).length+([]:List Keyword).length+(if([]:List Keyword).isEmpty then 0 else 1)<30))=true
 line:(apos.endLine==cz.line)=true
 trees:backTo cz (starEach [e,f] X.env)=[(false,eval e X.env),(false,eval f X.env)]
def K1:bootBuiltins "reversed"=some (.type "reversed"):=by decide+kernel
section
variable {X:aR}{pins:List (Addr×Obj)}{aa:St}{H:am}{s:Shared}{h':Heap}
def Inv.turnedL {t':Nat}{ch:List Addr} (I:Inv X pins aa H s) (k:∀b o,b∉ch->s.heap.get? b=some o->h'.get? b=some o) (a:∀b∈ch,il X pins H b):Inv X pins aa H {s with heap:=h',toks:=t'}:=by
 have d:∀b u,H b=some u->b∉ch:=λb u e z=>by
  have q:=(a b z).1;rw[q]at e;cases e
 refine I.step (g':=s.gens) (d':=s.drawn) (ch:=ch) (λb f=>{(a b f).2.2.2.1,(a b f).2.1,(a b f).2.2.2.2.1,(a b f).2.2.2.2.2}) (λb o _ _ hc e _=>k b o hc e) (λb o _ _ hc e _=>{o.slots,k b o hc e})
  (λ_ _ _ _ n=>n) (λb o hc e=>{o,k b o hc e}) (λ_ _ e=>e) (λ_ _ _ e=>e) (λb ps e=>{#[],by nofun}) (λm g=>?_) (λb u e=>?_) I.bare
 ·let(o,ay,h,i,r):=g
  exact{o,ay,h,k _ o (λz=>(a _ z).2.1 rfl) i,r}
 ·refine(I.aS b u e).ij (λc v hc q=>k c v ?_ q) (λ_ q=>q) λ_ _ q=>q
  rcases hc with z|z
  ·nofun
  ·nofun
def Inv.turnedNew{ch:List Addr}{T:Addr}(I:Inv X pins aa H s)(k:∀b o,b∉ch->s.heap.get? b=some o->h'.get? b=some o)(d:∀b∈ch,il X pins H b)(j:s.heap.objs.size<=T)
  (i:cX X.prog X.w (upd H T h) h' T h):Inv X pins aa (upd H T h) {s with heap:=h',toks:=t'}:=by
 have f:H T=none:=I.aS.fresh j;have g:∀b u,H b=some u->b∉ch:=λb u e z=>by have q:=(d b z).1;rw[q]at e;cases e
 refine I.step (g':=s.gens) (d':=s.drawn) (ch:=ch) (λb a=>{(d b a).2.2.2.1,(d b a).2.1,(d b a).2.2.2.2.1,(d b a).2.2.2.2.2}) (λb o _ _ hc e _=>k b o hc e) (λb o _ _ hc e _=>{o.slots,k b o hc e})
  (λb o _ e n=>?_) (λb o hc e=>{o,k b o hc e}) (λb xs e=>?_) (λb o u e=>?_) (λb ps e=>{#[],?_}) (λm l=>?_) (λb u e=>?_) I.bare
 rw[aK (Xz (Xq (W' e) j))];calc n;rw[aK (cT e f)];calc e;rw[aK (cT e f)];calc e;rw[aK (cT e f),e];simp;let(o,ay,p,t,r):=l;calc{o,ay,p,k _ o (λz=>(d _ z).2.1 rfl) t,r};by_cases a:b=T;subst a;rw[aO]at e;cases e;calc i;rw[aK a]at e;refine(I.aS b u e).ij (λc v hc q=>k c v ?_ q) (λc q=>by rw[aK (cT q f)];calc q) λc xs q=>by rw[aK (cT q f)];exact q
 rcases hc with z|z
 nofun;nofun
end
section
variable {X:aR}
def xp{aa:St}(I:Inv X pins aa H s)o
  (T:Turn X.prog X.w X.K bK J [s.heap.objs.size] s.heap.objs.size a) (st:a 0 (s.heap.push o)) (q:R J H):wV X pins aa bK R (.ref s.heap.objs.size) {s with heap:=s.heap.push o,toks:=tk}:=by
 refine{s.heap.objs.size,[s.heap.objs.size],a,J,H,rfl,I.kept λb d e=>W4 _ e,T,st,λb c=>?_,q};have e:b=s.heap.objs.size:=by nofun
 subst e;calc I.fpOk (W2 _) (I.aS.fresh (W2 _))
end
def B2(K:PySem.W.Frag)(a:Addr)(n:Nat):fh:=
 {λi H=>i<n/\∃xs x,au K H a xs/\xs[n-1-i]? =some x,λi H x aj=>aj=H/\∀xs,au K H a xs->xs[n-1-i]? =some x,λi _=>n<=i}
def K2{K:PySem.W.Frag}(a it)n:Turn P w K bK (B2 K a n) [it] it (λi h=>i<=n/\h.IsRevIter it a (n-1-i)) where
 mem:=by simp
 obj:=λi h st b g=>by
  have e:b=it:=by nofun
  subst e;let(_,o,e,c,d):=st;exact{o,e,λv z=>by rw[d]at z;cases z}
 keep:=λi h h' st k=>{st.1,st.2.at λo e=>k it (by simp) o e}
 item:=by
  intro X q r t hc i pins s aa H E I m st y;subst q r t;let(l,xs,x,L,M):=y;let(its,N,p,hz):=I.list L;let(u,O,R):=N.get M;let(B,C,S,D,F,G):=m it (by simp);let(_,f):=st;have J:n-1-(i)=((n-1-i:Nat):Int):=by lia
  erw[J]at f;refine wpAny_pyNext_rev_item f p.isList (x:=u) (by nofun) λh' j dR=>?_;have T:((n-1-i:Nat))-1=n-1-((i+1):Int):=by lia
  erw[T]at j;let(o,e,c,d):=id j;exact{u,rfl,tu e c d (by decide) {x,H,(I.turned (λb o g e=>(dR.2 b g).trans e) B C D F G),R,{rfl,λys U=>by rw[I.list_inj U L];calc M},⟨l,j⟩,λb g=>(m b g).1}}
 done:=by
  intro X q r t hc i pins s aa H E I m st y;let(B,C,S,D,F,G):=m it (by simp);let(l,f):=st;have V:n<=i:=y;have J:(n:Int)-1-((i:Nat):Int)= -1:=by lia
  rw[J]at f;exact wpAny_pyNext_rev_end (I.ok.hd hc) f λh' W=>{rfl,I.turned (λb o g e=>W b o g e) B C D F G}
 self:=λA i s Q E st h=>wpAny_pyIter_revIter st.2 h
def xq(K:PySem.W.Frag)(aP:ci):TI:=λaa H R=>aP aa H λvs H1=>∃a xs,vs=[.ref a]/\au K H1 a xs/\R (B2 K a xs.length) H1
section
variable {X:aR}{bK:Expr}
def K3(b:d2 X "reversed")(c:X.mg "reversed"=none)(d:dF X [e] aP)(hs:starEach [e] X.env=[(false,eval e X.env)]:=by rfl):hM X bK (.Call (.Name "reversed" p) [e] [] pos) (xq X.K aP):=by
 refine λpins s aa H R I h=>Call_ (oL I b c K1 (Yv (aW (d pos pins s aa H _ I h) λus s1 zz=>?_) hs rfl));let(vs,H1,aA,f,g):=zz;let(a,xs,e,j,q):=g;subst e;cases f with|cons r k=>
  cases k;cases r;let(its,m,n,hz):=aA.list j;have hl:=m.length;have o:(its.toArray.size)-1=xs.length-1-((0:Nat):Int):=by simp;nofun
  refine call_reversed_list n.isList (wpAny_pyIter_revIter {_,Xy _ rfl,rfl,rfl} ?_);refine xp aA _ (K2 a _ xs.length) {Xk _,?_} q;rw[<-o];calc{_,Xy _ rfl,rfl,rfl}
end
def xr(x:Str):fh:={λi _=>i<x.cps.size,λi H v aj=>aj=H/\∃c,x.cps[i]? =some c/\v=.str {#[c]},λi _=>x.cps.size<=i}
def B3{K:PySem.W.Frag}it x t ty(a:ty= "str_ascii_iterator"\/ty= "str_iterator"):
  Turn P w K bK (xr x) [it] it (λi h=>h.IsStrIter it ty x t i) where
 mem:=by simp
 obj:=λi h st b f=>by
  have e:b=it:=by simpa using f
  subst e;let(o,e,c,d):=st;exact{o,e,λv z=>by rw[d]at z;cases z}
 keep:=λi h h' st k=>have⟨o,cF,r⟩:=st;{o,k it (by simp) o cF,r};item:=by
  intro X y B C hc i pins s aa H E I j st D;subst y B C;let(l,m,M,n,p,q):=j it (by simp);have W:Walks X.prog X.w X.A it [it] [it] x.cps.size (SignAt x) (λi h=>h.IsStrIter it ty x t i):=by
   rcases a with e|e;rw[e];calc Walks.strAscii (I.ok.hd hc) it x t;rw[e];exact Walks.strWide (I.ok.hd hc) it x t
  have F:["enumerate","zip","dict_itemiterator","dict_reverseitemiterator","odict_iterator","itertools.zip_longest","itertools.pairwise"].contains ty=false:=by
   rcases a with e|e;rw[e];decide;rw[e];decide
  refine W.item i s _ _ D st λv h' tk N g O=>?_;let(c,u,G,rfl):=N;let(S,e,R,dd):=id g;exact{_,rfl,tu e R dd F {.str {#[c]},H,(I.turned (λb o f e=>O b o (by simpa using f) e) l m n p q),⟨u,rfl⟩,⟨rfl,c,G,rfl⟩,g,λb f=>(j b f).1}}
 done:=by
  intro X y B C hc i pins s aa H E I j st D;let(l,m,M,n,p,q):=j it (by simp);have L:=Array.getElem?_eq_none D;rcases a with e|e;rw[e]at st;calc wpAny_pyNext_ascii_end (I.ok.hd hc) st L λh' J=>{rfl,I.turned (λb o f e=>J b o f e) l m n p q};rw[e]at st;exact wpAny_pyNext_wide_end (I.ok.hd hc) st L λh' J=>{rfl,I.turned (λb o f e=>J b o f e) l m n p q}
 self:=λA i s Q E st h=>by
  rcases a with e|e;rw[e]at st;calc wpAny_pyIter_striter_ascii st h;rw[e]at st;calc wpAny_pyIter_striter_wide st h
def B4(te:TE):TI:=λaa H R=>te aa H λv H1=>∃x,v=.str x/\R (xr x) H1
def K4(b:aH X e te):hM X bK e (B4 te):=by refine λpins s aa H R I h=>aW (b pins s aa H _ I h) λv s1 zz=>?_;let(y,H1,aA,c,x,ex,q):=zz;subst ex;let(t,rfl):=c;cases a:x.cps.all (· <128);calc wpAny_pyIter_wide a (xp aA _ (B3 _ x t "str_iterator" (.inr rfl)) {_,Xy _ rfl,rfl,rfl} q);calc wpAny_pyIter_ascii a (xp aA _ (B3 _ x t "str_ascii_iterator" (.inl rfl)) {_,Xy _ rfl,rfl,rfl} q)
def tN(K:PySem.W.Frag)(a:Addr):fh:=
 {λi H=>∃xs x,au K H a xs/\xs[i]? =some x,λi H v aj=>∃T x,v=.ref T/\H T=none/\aj=upd H T (.tup [.int i,x])/\∀xs,au K H a xs->xs[i]? =some x,λi H=>∃xs,au K H a xs/\xs.length<=i}
def K5{K:PySem.W.Frag}(a e it):
  Turn P w K (.Tuple j S dN) (tN K a) [e,it] e (λi h=>(∃old,IsEnum h e it (i) old)/\h.IsListIter it a i/\e≠it) where
 mem:=by simp
 obj:=λi h st b d=>by
  let(z0,z1,_):=st;let(old,f):=z0;let(o,t,hc,hd):=z1;have y:b=e\/b=it:=by simpa using d
  rcases y with z|z;rw[z];calc{_,f,λv q=>nomatch q};rw[z];exact{o,t,λv q=>by rw[hd]at q;cases q}
 keep:=λi h h' st k=>have⟨⟨old,f⟩,af,c⟩:=st;{{old,k e (by simp) _ f},af.at λo q=>k it (by simp) o q,c};item:=by
  intro X B C D hc i pins s aa H E I n st F;subst B C D;let(z2,g,c):=st;let(old,f):=z2;let(xs,x,r,G):=F;let(its,J,p,hz):=I.list r;let(u,T,U):=J.get G;have l:=W' f;have L:it<s.heap.objs.size:=by let(_,q,_):=g;exact W' q
  refine wpAny_pyNext_enum_item f g p.isList (by simpa using T) c λh' t m V hsz ak=>?_;refine{_,rfl,wpAny_letOwnedTupleGo_enum t λf3 M dR=>?_};have N:=(dR.2 _ (Xr l)).trans V;have O:cX X.prog X.w (upd H s.heap.objs.size (.tup [.int i,x])) f3 s.heap.objs.size (.tup [.int i,x]):=
   {by show 2<=sizeLine;decide,[.int i s.toks,u],.cons {_,rfl} (.cons U .nil),{_,N,rfl,_,rfl}}
  have aA:Inv X pins aa (upd H s.heap.objs.size (.tup [.int i,x])) {s with heap:=f3,toks:=s.toks+1}:=
   I.turnedNew (λb W d q=>(dR.2 b λz=>d (by simp[z])).trans (ak b W (λz=>d (by simp[z])) (λz=>d (by simp[z])) q)) n (W2 _) O
  refine{.ref s.heap.objs.size,_,aA,rfl,{_,x,rfl,I.aS.fresh (W2 _),rfl,λys Y=>by rwa[I.list_inj Y r]},{{u,?_},m.at λo q=>(dR.2 it (XE c)).trans q,c},λb d=>?_};have Z:((i+1))=i+1:=by nofun
  rwa[Z];have R:b<s.heap.objs.size:=by
   rcases (by simpa using d) with z|z;nofun;rwa[z]
  rw[aK (Xz R)];exact(n b d).1
 done:=by intro X B C D hc i pins s aa H E I n st F;subst B C D;let(z3,g,c):=st;let(old,f):=z3;let(xs,r,G):=F;let(its,J,p,hz):=I.list r;let(f0,f1,f2,qX,f4,K6):=n it (by simp);have hl:=J.length;exact wpAny_pyNext_enum_end (I.ok.hd hc) f g p.isList (by simp;nofun) λh' nc=>{rfl,I.turned (λb o d q=>nc b o d q) f0 f1 qX f4 K6}
 self:=λA i s Q E st h=>have⟨⟨_,f⟩,_⟩:=st;wpAny_pyIter_enum f h
def xt(K:PySem.W.Frag)(aP:ci):TI:=λaa H R=>aP aa H λvs H1=>∃a xs,vs=[.ref a]/\au K H1 a xs/\R (tN K a) H1
def ky(j:d2 X "enumerate")(k:X.mg "enumerate"=none)(l:dF X [e] aP)(hs:starEach [e] X.env=[(false,eval e X.env)]:=by rfl):
  hM X (.Tuple c i dN) (.Call (.Name "enumerate" p) [e] [] pos) (xt X.K aP):=by
 intro pins s aa H R I h;refine Call_ (oL I j k boot_enumerate (Yv (aW (l pos pins s aa H _ I h) λus s1 zz=>?_) hs rfl));let(vs,H1,aA,m,n):=zz;let(a,xs,ex,o,q):=n;subst ex;cases m with
 |cons r t=>
  cases t;cases r;let(its,y,u,hz):=aA.list o;refine call_enumerate_list u.isList λh' g f hsz ak=>wpAny_pyIter_enum g ?_;have v:Inv X pins aa H1 {s1 with heap:=h'}:=aA.kept (t':=s1.toks) ak;refine{s1.heap.objs.size+1,[s1.heap.objs.size+1,s1.heap.objs.size],_,_,H1,rfl,v,K5 a (s1.heap.objs.size+1) s1.heap.objs.size,{{.none,g},f,Nat.succ_ne_self _},λb w=>?_,q};have x:b=s1.heap.objs.size+1\/b=s1.heap.objs.size:=by simpa using w
  have d:s1.heap.objs.size<=b:=by
   rcases x with z|z
   nofun;rw[z];exact W2 _
  calc aA.fpOk d (aA.aS.fresh d)
def K7:bootBuiltins "zip"=some (.type "zip"):=by decide+kernel
def tO(K:PySem.W.Frag)(a b:Addr):fh:=
 {λi H=>∃xs ys x y,au K H a xs/\au K H b ys/\xs[i]? =some x/\ys[i]? =some y,
  λi H v aj=>∃T x y,v=.ref T/\H T=none/\aj=upd H T (.tup [x,y])/\(∀xs,au K H a xs->xs[i]? =some x)/\∀ys,au K H b ys->ys[i]? =some y,
  λi H=>∃xs ys,au K H a xs/\au K H b ys/\(xs.length<=i\/ys.length<=i)}
def K8{K:PySem.W.Frag}{a b z TI gN j bp:Addr}(D:ZipApart z TI gN j bp a b):
  Turn P w K (.Tuple B K9 dN) (tO K a b) [z,TI,gN,j,bp] z (λi h=>IsZip h z TI gN .none/\IsPair h TI (.ref j) (.ref bp)/\(∃x y,IsPair h gN x y)/\h.IsListIter j a i/\h.IsListIter bp b i) where
 mem:=by simp
 obj:=λi h st c hc=>by
  let(hz,d,z0,z1,z2):=st;let(x,y,e):=z0;let(cc,M,_,cB):=z1;let(cU,N,_,bX):=z2;have O:c=z\/c=TI\/c=gN\/c=j\/c=bp:=by nofun
  rcases O with q|q|q|q|q
  nofun;nofun;nofun;grind;grind
 keep:=λi h h' st k=>by let(hz,d,z3,ae,ag):=st;let(x,y,e):=z3;exact{k z (by simp) _ hz,k TI (by simp) _ d,{x,y,k gN (by simp) _ e},ae.at λo q=>k j (by simp) o q,ag.at λo q=>k bp (by simp) o q}
 item:=by
  intro X R S T hc i pins s aa H E I J st U;subst R S T;let(hz,d,z4,ae,ag):=st;let(x0,xu,e):=z4;let(xs,ys,x,y,m,n,aB,aN):=U;let(its,V,p,_):=I.list m;let(r,t,bn,_):=I.list n;let(u,bg,K_):=V.get aB;let(L,W,Y):=t.get aN;have C:z<s.heap.objs.size:=W' hz;refine wpAny_pyNext_zip_item D hz d e ae ag p.isList bn.isList (x:=u) (y:=L) (by grind) (by grind) λh' wH Z K' kz gq hsz ak=>?_;refine{_,rfl,wpAny_letOwnedTupleGo_zip (s:= {s with heap:=h'}) wH λf3 La dR=>?_};have Lb:f3.get? s.heap.objs.size=some {cls:=.type "tuple",data:=.seq #[u,L]}:=(dR.2 _ (Xr C)).trans gq;have new:cX X.prog X.w (upd H s.heap.objs.size (.tup [x,y])) f3 s.heap.objs.size (.tup [x,y]):=
   {by show 2<=sizeLine;decide,[u,L],.cons K_ (.cons Y .nil),{_,Lb,rfl,_,rfl}}
  have aA:Inv X pins aa (upd H s.heap.objs.size (.tup [x,y])) {s with heap:=f3}:=
   I.turnedNew (t':=s.toks) (ch:=[z,TI,gN,j,bp]) (λc o g q=>(dR.2 c (λf=>g (by simp[f]))).trans (ak c o (λf=>g (by simp[f])) (λf=>g (by simp[f])) (λf=>g (by simp[f])) (λf=>g (by simp[f])) q)) J (W2 _) new
  refine{.ref s.heap.objs.size,_,aA,rfl,{_,x,y,rfl,I.aS.fresh (W2 _),rfl,λl hl=>by rw[I.list_inj hl m];calc aB,λl hl=>by rw[I.list_inj hl n];calc aN},{La,?_,{u,L,?_},?_,?_},λc F=>?_};calc(dR.2 _ D.TIz).trans (ak _ _ D.TIz D.TITO D.TIi1 D.TIi2 d);calc(dR.2 _ D.TOz).trans Z;calc K'.at λo q=>(dR.2 _ D.i1z).trans q;calc kz.at λo q=>(dR.2 _ D.i2z).trans q;have B5:c<s.heap.objs.size:=by
   have O:c=z\/c=TI\/c=gN\/c=j\/c=bp:=by simpa using F
   rcases O with q|q|q|q|q
   rw[q];calc C;rw[q];calc W' d;rw[q];calc W' e;rw[q];let(_,M,_):=ae;calc W' M;rw[q];let(_,N,_):=ag;exact W' N
  rw[aK (Xz B5)];exact(J c F).1
 done:=by
  intro X R S T hc i pins s aa H E I J st U;subst R S T;let(hz,d,z5,ae,ag):=st;let(x0,xu,e):=z5;let(xs,ys,m,n,G):=U;let(its,V,p,_):=I.list m;let(r,t,bn,_):=I.list n;have nf:=V.length;have tP:=t.length;have he:its.toArray[i]? =none\/r.toArray[i]? =none:=by nofun
  exact wpAny_pyNext_zip_end (I.ok.hd hc) D hz d e ae ag p.isList bn.isList he λh' ak=>{rfl,I.turnedL (t':=s.toks) (ch:=[z,TI,gN,j,bp]) (λc o g q=>ak c o (λf=>g (by simp[f])) (λf=>g (by simp[f])) (λf=>g (by simp[f])) (λf=>g (by simp[f])) q) J}
 self:=λA i s Q E st h=>wpAny_pyIter_zip st.1 h
def xv(K:PySem.W.Frag)(aP:ci):TI:=λaa H R=>aP aa H λvs H1=>∃a b xs ys,vs=[.ref a,.ref b]/\au K H1 a xs/\au K H1 b ys/\R (tO K a b) H1
def lJ{p pos dN:Pos}{f:List Expr}{v:Nat}(w:d2 X "zip")(x:X.mg "zip"=none)(y:dF X [e,d] aP)
  (hs:starEach [e,d] X.env=(false,eval e X.env)::starEach [d] X.env:=by rfl) (i:(backTo pos (starEach [d] X.env)).any (·.1)=false:=by rfl):
  hM X (.Tuple f v dN) (.Call (.Name "zip" p) [e,d] [] pos) (xv X.K aP):=by
 refine λpins s aa H R I h=>Call_ (oL I w x K7 (Yv (aW (y pos pins s aa H _ I h) λus s1 zz=>?_) hs i));let(vs,H1,aA,A,B):=zz;let(a,b,xs,ys,ex,j,k,q):=B;subst ex;cases A with|cons r l=>
  cases l with|cons C l=>
   cases l;cases r;cases C;let(its,K,t,_):=aA.list j;let(u,D,bn,_):=aA.list k;have E:=t.lt;have F:=bn.lt;refine call_zip_2 t.isList bn.isList λh' hz m n ae ag hsz ak=>wpAny_pyIter_zip hz ?_;refine{s1.heap.objs.size+4,[s1.heap.objs.size+4,s1.heap.objs.size+2,s1.heap.objs.size+3,s1.heap.objs.size,s1.heap.objs.size+1],_,_,H1,rfl,(aA.kept ak),K8 (PySem.W.ktu_apart s1.heap.objs.size a b E F),{hz,m,{_,_,n},ae,ag},λc o=>?_,q};have g:s1.heap.objs.size<=c:=by
    rcases (by simpa using o) with z|z|z|z|z;rw[z];calc ZA _ _;rw[z];calc ZA _ _;rw[z];calc ZA _ _;rw[z];calc W2 _;rw[z];exact ZA _ _
   calc aA.fpOk g (aA.aS.fresh g)
end L2
section
namespace Lc
open PySem PyProof.Rows
end Lc
end
section
namespace fD
open PySem PySem.Builtin PySem.Builtin.Str PySem.StrLaws
abbrev bT(x:Str):List Nat:=x.cps.toList
def rx(h:bT x=bT y):x=y:=Str.ext' (Array.toList_inj.mp h)
def xw(x y):bT (x++y)=bT x++bT y:=by show(x++y).cps.toList=_;rw[Str.cps_append,Array.toList_append]
def B6 s:bT (Str.ofString s)=s.toList.map Char.toNat:=PyProof.Rows.signs_ofString s
def pre(S l:List Nat):Bool:=l.take S.length==S
def par(S:List Nat):List Nat->List Nat->Option (List Nat×List Nat)|_,[]=>none|acc,c::r=>if pre S (c::r)=true then some (acc,(c::r).drop S.length)else par S (acc++[c]) r
def ng(S:List Nat):List (List Nat)->List Nat|[]=>[]|[p]=>p|p::q::r=>p++(S++ng S (q::r))
theorem xx y:∀a,bT (Str.join y a)=ng (bT y) (a.map bT)|[]=>rfl|[_]=>rfl|x::z::r=>by show bT (x++y++Str.join y (z::r))=bT x++(bT y++ng (bT y) ((z::r).map bT));erw[xw,xw,xx y (z::r),XZ]
def join_eq y a:Txt.join y a=Str.join y a:=glued_eq_join y a
def Ld(n:Nat):List Nat:=(Nat.toDigits 10 n).map Char.toNat
def Le(n:Nat):bT (Str.ofString (toString (n:Int)))=Ld n:=PySem.W.KIN.signs_num n
end fD
end
namespace L2
open PySem PySem.Spec PyProof.Rows
theorem xy:∀{ys:List Str}{us:List Value},a0 (ys.map V.str) us->StrsAre us ys|[],_,.nil=>.nil|y::ys,_,.cons r t=>by let(k,rfl):=r;calc .cons y k (xy t)
section
variable {X:aR}
def Lf:hb X "str.join" (λx xs H Q=>∃a p,∃ys,x=.str a/\xs=[.ref p]/\(au X.K H p (ys.map V.str)\/bJ X.K H p (ys.map V.str))/\
  (ys.map (·.length)).sum+ys.length*a.length<=16777216/\Q (.str (Txt.join a ys)) H):=by
 intro pins s aa H x xs v us Q I b rs h;let(a,p,ys,rfl,rfl,a8,hz,h):=h;let(t,rfl):=b;cases rs with|cons c rs=>
  cases rs;cases c;rcases a8 with a8|a8;let(its,r,z,_):=I.list a8;let(o,n,d,hc,_,hd):=z;calc PyProof.Rows.join_list ⟨o,d,hc,n,hd⟩ (by calc xy r) hz λt' k=>{.str _,H,I.tok k,⟨t',rfl⟩,h};let(its,r,e,_):=I.tuple a8;calc PyProof.Rows.join_tuple e (by calc xy r) hz λt' k=>{.str _,H,I.tok k,⟨t',rfl⟩,h}
end
section
variable {X:aR}{o e:Expr}{to te:TE}
def xz(r:V->List V->am->aE->Prop)(to te:TE):TE:=λaa H Q=>to aa H λx H1=>(∃a,x=.str a)/\te aa H1 λy ai=>r x [y] ai Q
def Lg{id:String}{apos pos:Pos}(slot:Slot "str" name id)(ty:typeOf (.builtin id)=pure (.type "method_descriptor"))(rule:hb X id r)(g:aH X o to)(i:aH X e te)
  (hs:starEach [e] X.env=[(false,eval e X.env)]:=by rfl) (b:attributeBase o name X.env (eval o X.env)=eval o X.env:=by rfl) (c:(apos.endLine==pos.line)=true:=by rfl):
  aH X (.Call (.Attribute o name apos) [e] [] pos) (xz r to te):=by
 refine λpins s aa H Q I h=>PySem.Call_method1 b hs c (aW (g pins s aa H _ I h) λv s1 zz=>?_);let(x,H1,aA,f,d):=zz;let(z,d):=d;let(a,rfl):=z;let(t,rfl):=_root_.id f;refine{"str",_,F.plainAttrs_str,slot,ty,typeIs_str _ _ _,(λ_ e=>nomatch e),Zj rfl (aab (Calls.spliced_cons ?_))};exact aW (i pins s1 aa H1 _ aA d) λu j zz=>by let(y,ai,k,l,m):=zz;calc Calls.spliced_nil (rule pins j aa ai _ [y] _ [u] Q k f (.cons l .nil) m)
end
end L2
namespace Lh
open PySem PySem.W PySem.Calls PyProof.Rows
end Lh
namespace L2
open PySem PySem.Spec PyProof.Rows
def inClass(s:Stmt)(j:Nat):Stmt:=match s with|.ClassDef _ _ _ body _ _ _ _ _ _ _=>body.getD j (.Pass {0,0,0,0})|_=>.Pass {0,0,0,0}
def jB(s:Stmt):Arguments:=match s with|.FunctionDef _ a _ _ _ _ _ _ _ _=>a|_=> {posonlyargs:=[],args:=[],vararg:=none,kwonlyargs:=[],kw_defaults:=[],kwarg:=none,defaults:=[]}
def eO(s:Stmt):List Stmt:=match s with|.FunctionDef _ _ b _ _ _ _ _ _ _=>b|_=>[]
def bL(s:Stmt):Scope:=match s with|.FunctionDef _ _ _ _ _ _ sc _ _ _=>sc|_=> {kind:=.function,names:=[],isGenerator:=false,isCoroutine:=false}
abbrev dB:eD:=λ_ _ _ _ _ _=>False
abbrev ry:b8:=λ_ _ _=>False
def dt:Passes dB X ry:=λ_ _ _ _ _ _ _ h=>h.elim
structure ir(K:PySem.W.Frag)(x qual:Str)(st:Stmt)(f:Addr)(fd:FuncData):Prop where
 ex:∃(ff:Value)(cD:Option Addr)(cb doc pm:Value)(an:Option Addr)(a_ ct:Value)(fB:Array (Option Value)),
  fd=fnOf x qual (jB st) (eO st) (bL st) .none cb doc pm an a_ ct/\K.lookup f=some {ff,cD,.func fd,fB}/\codeIn K a_ qual=true
 cL:keepIn K (.ref f)=true
section
variable {P:Program}{w:World}{K:PySem.W.Frag}{mg:Str->Option Value}{base:Heap}
def ir.ok{st:Stmt}(F:ir K x qual st f fd)(S:fA N ps (bL st))(len:∀vs H Q E,sp vs H Q E->vs.length=ps.length)
  (a:∀(a_:Value)(A:Around)(outer:List Env)(s:Shared)(H:am)(vs:List V)(Q:aE)(E:b8),b2 k (A.deeper (envOfC qual (bL st) s.heap.objs.size f a_))->sp vs H Q E->
   ∃t,eo (ep dB P w K mg base N qual (bL st) f a_ A outer s H E).hJ (eO st) t/\t {nx:=λ_ aj=>Q .bb aj,rt:=Q} (start N vs) H):dU P w K mg base dB (k+1) f fd ps sp:=by
 let(ff,cD,cb,doc,pm,an,a_,ct,fB,rfl,lk,b):=F.ex;refine Bf lk b S len λA outer s H vs Q E d c=>?_;let(t,h,q):=a a_ A outer s H vs Q E d c;calc⟨t,h.hJ,q⟩
def ir.binds{st:Stmt}(F:ir K x qual st f fd)
  (h:∀(cb doc pm:Value)(an:Option Addr)(a_ ct:Value)(us:List Value),us.length=ps.length->bindArgs (fnOf x qual (jB st) (eO st) (bL st) .none cb doc pm an a_ ct) {us,[]}=pure (ps.zip us)):Binds K fd ps []:=by
 let(ff,cD,cb,doc,pm,an,a_,ct,fB,rfl,lk,a):=F.ex;calc .all (h cb doc pm an a_ ct)
def lK{st:Stmt}{cb doc pm a_ ct:Value}(l:K.lookup f=some {ff,cD,.func (fnOf x qual (jB st) (eO st) (bL st) .none cb doc pm an a_ ct),fB})
  (c:codeIn K a_ qual=true) (k:keepIn K (.ref f)=true):ir K x qual st f (fnOf x qual (jB st) (eO st) (bL st) .none cb doc pm an a_ ct):={⟨ff,cD,cb,doc,pm,an,a_,ct,fB,rfl,l,c⟩,k}
end
def kA(a:b2 k A):A.units+1<cLine:=Xn (Nat.add_le_add_left (by simp) _) a.units
section
variable {X:aR}
def ah i{pos:Pos}(b:X.N[i]? =some x:=by rfl)(c:oI X.env.scope x:=by first|exact Or.inl rfl|exact Or.inr (Or.inl rfl)|exact Or.inr (Or.inr rfl))(hd:(x==("__debug__":Str))=false:=by decide)
  (a:(x==("__classdict__":Str))=false:=by decide):aH X (.Name x pos) (mY i):=I0 b c hd a
end
def aw(H aj:am):Prop:=∀b o,H b=some o->aj b=some o
def aw.refl H:aw H H:=λ_ _ h=>h
def aw.trans(a:aw H H1)(b:aw H1 ai):aw H ai:=λc o h=>b c o (a c o h)
def aw.free(e:aw H aj)(h:aj l=Option.none):H l=Option.none:=by
 cases q:H l with|none=>rfl|some o=>rw[e l o q]at h;cases h
def aw.seq{K:PySem.W.Frag}(e:aw H aj)(h:au K H a xs):au K aj a xs:=by
 rcases h with(h|⟨o,h⟩)|h;calc .inl (.inl (e _ _ h));calc .inl (.inr {o,e _ _ h});calc .inr h
section
variable {bS:Type} [DecidableEq bS]
def Li{kvs:List (bS×V)}(h:cr kvs k=none):¬k∈kvs.map (·.1):=by intro m;let(p,a,e):=WT.mp m;have q:(kvs.any λb=>decide (b.1=k))=true:=Yy.mpr {p,a,Xm e};rw[m9,h]at q;calc absurd q (by simp)
end
open PySem.W (WData Codec OpenSpec Well WellAll ReadsW ReadsAllW)
mutual
inductive eP (K:PySem.W.Frag) (H:am):V->WData->Prop
 |bb:eP K H .bb .none
 |aG (b:Bool):eP K H (.aG b) (.bool b)
 |int (i:Int):eP K H (.int i) (.int i)
 |str (x:Str):eP K H (.str x) (.str x)
 |fX (b:Array UInt8):eP K H (.fX b) (.bytes b.toList)
 |lst {a:Addr}{xs:List V}{ds:List WData}:au K H a xs->hT K H xs ds->eP K H (.ref a) (.list ds)
 |tup {a:Addr}{xs:List V}{ds:List WData}:bJ K H a xs->hT K H xs ds->eP K H (.ref a) (.tuple ds)
inductive hT (K:PySem.W.Frag) (H:am):List V->List WData->Prop
 |nil:hT K H [] []
 |cons {v:V}{vs:List V}{d:WData}{ds:List WData}:eP K H v d->hT K H vs ds->hT K H (v::vs) (d::ds)
end
theorem B7{K:PySem.W.Frag}:∀ns:List Int,hT K H (ns.map V.int) (ns.map WData.int)|[]=>.nil|n::r=>.cons (.int n) (B7 r)
theorem B8{K:PySem.W.Frag}:∀(ns:List Int)xs,hT K H xs (ns.map WData.int)->xs=ns.map V.int
 |[],xs,h=>by cases h;rfl|n::r,xs,h=>by
  cases h with|cons ae ag=>cases ae;rw[B8 r _ ag]<;>rfl
section
variable {P:Program}{w:World}{K:PySem.W.Frag}{H:am}{h:Heap}{R:WRecords}{cl:Str->Option Addr}
def Lj(aS:cu P w H h)(c:K.In h)(q:au K H a xs):∃its o n,a0 xs its/\h.get? a=some o/\o.cls=.type "list"/\o.data=.seq its.toArray n:=by
 rcases q with q|⟨o,its,n,e,hc,_,hd,_,b⟩;let(_,its,n,b,e):=(show cX P w H h a (.lst xs)from q.ok aS);calc{its,_,n,b,e,rfl,rfl};exact{its.toList,o,n,b,c _ _ e,hc,by omega}
def Lk(aS:cu P w H h)(c:K.In h)(q:bJ K H a xs):∃its o n,a0 xs its/\h.get? a=some o/\o.cls=.type "tuple"/\o.data=.seq its.toArray n:=by
 rcases q with q|⟨o,its,n,e,hc,hd,_,b⟩;let(_,its,b,o,e,hc,n,hd):=(show cX P w H h a (.tup xs)from q.ok aS);calc⟨its,o,n,b,e,hc,hd⟩;exact{its.toList,o,n,b,c _ _ e,hc,by omega}
mutual
theorem eP.reads (aS:cu P w H h) (KX:K.In h):∀(d:WData)(v:V)(u:Value),eP K H v d->RelV v u->∃as,ReadsW R cl h u d as
 |.none,_,_,x,r=>by cases x;cases r;calc{_,ReadsW.none}
 |.bool b,_,_,x,r=>by cases x;cases r;calc{_,ReadsW.bool b}
 |.int i,_,_,x,r=>by cases x;let(t,rfl):=r;calc{_,ReadsW.int i t}
 |.str s,_,_,x,r=>by cases x;let(t,rfl):=r;calc{_,ReadsW.str s t}
 |.bytes b,_,_,x,r=>by cases x;let(t,rfl):=r;calc{_,ReadsW.bytes _ t}
 |.list ds,_,_,x,r=>by
  cases x with
  |lst hs df=>cases r;let(its,o,n,m8,cF,hc,hd):=Lj aS KX hs;let(as,bF):=eP.readsAll aS KX ds _ its df m8;calc{_,ReadsW.list cF hc hd bF}
 |.tuple ds,_,_,x,r=>by
  cases x with
  |tup hs df=>cases r;let(its,o,n,m8,cF,hc,hd):=Lk aS KX hs;let(as,bF):=eP.readsAll aS KX ds _ its df m8;calc{_,ReadsW.tuple cF hc hd bF}
 |.float _,_,_,x,_=>by cases x
 |.dict _,_,_,x,_=>by cases x
 |.bytearray _,_,_,x,_=>by cases x
 |.set _,_,_,x,_=>by cases x
 |.frozenset _,_,_,x,_=>by cases x
 |.obj _ _,_,_,x,_=>by cases x
theorem eP.readsAll (aS:cu P w H h) (KX:K.In h):∀(ds:List WData)(vs:List V)(us:List Value),hT K H vs ds->a0 vs us->∃as,ReadsAllW R cl h us ds as
 |[],_,_,x,r=>by cases x;cases r;calc{_,ReadsAllW.nil}
 |d::ds,_,_,x,r=>by
  cases x with
  |cons ae ag=>
   cases r with
   |cons r1 r2=>let(as,fp):=eP.reads aS KX d _ _ ae r1;let(bs,eB):=eP.readsAll aS KX ds _ _ ag r2;exact{_,ReadsAllW.cons fp eB}
end
end
mutual
def hh:WData->Bool
 |.none=>true
 |.bool _=>true
 |.int _=>true
 |.str _=>true
 |.bytes _=>true
 |.list xs=>iu xs
 |.tuple xs=>iu xs
 |_=>false
def iu:List WData->Bool
 |[]=>true
 |x::r=>hh x&&iu r
end
theorem B9{α:Type}{f:α->WData}(h:∀a,hh (f a)=true):∀l:List α,iu (l.map f)=true|[]=>rfl|x::r=>by show(hh (f x)&&iu (r.map f))=true;simp only[h x,B9 h r]<;>rfl
theorem lL:∀(c:Codec)a,hh (c.enc a)=true|.unit,_=>rfl|.bool,_=>rfl|.int _ _,_=>rfl|.nat _ _,_=>rfl|.u8,_=>rfl|.bytes _ _,_=>rfl|.text _ _ _ _,_=>rfl|.list _ _ c,a=>B9 (λx=>lL c x) a|.pair c d,a=>by show(hh (c.enc a.1)&&(hh (d.enc a.2)&&true))=true;simp only[lL c a.1,lL d a.2]<;>rfl|.triple c d e,a=>by show(hh (c.enc a.1)&&(hh (d.enc a.2.1)&&(hh (e.enc a.2.2)&&true)))=true;simp only[lL c a.1,lL d a.2.1,lL e a.2.2]<;>rfl|.option c,none=>rfl|.option c,some x=>lL c x
theorem B_:∀b a,iu (Codec.encAll b a)=true|[],_=>rfl|c::b,a=>by show(hh (c.enc a.1)&&iu (Codec.encAll b a.2))=true;simp only[lL c a.1,B_ b a.2]<;>rfl
theorem xA:∀{xs:List WData}{d:WData},d∈xs->d.weight<=WData.weightAll xs
 |[],d,h=>absurd h (by simp)|x::r,d,h=>by
  show d.weight<=x.weight+1+WData.weightAll r;rcases WW.mp h with e|m;grind;have z:=xA m;lia
def toV:Value->V|.none=>.bb|.bool b=>.aG b|.int i _=>.int i|.str x _=>.str x|.bytes b _=>.fX b|.ref a=>.ref a|_=>.bb
def hU(A:List Addr):Value->Prop|.none=>True|.bool _=>True|.int _ _=>True|.str _ _=>True|.bytes _ _=>True|.ref a=>a∈A|_=>False
def hU.mono(h:∀a∈A,a∈B):∀{u:Value},hU A u->hU B u:=λ{u}x=>by
 cases u with|ref a=>calc h a x|none=>trivial|bool b=>trivial|int i t=>trivial|str s t=>trivial|bytes b t=>trivial|_=>calc False.elim x
def Ll(x:hU A u):RelV (toV u) u:=by
 cases u with|ref a=>rfl|none=>rfl|bool b=>rfl|int i t=>calc⟨t,rfl⟩|str s t=>calc⟨t,rfl⟩|bytes b t=>calc⟨t,rfl⟩|_=>calc False.elim x
theorem o6:∀{vs:List Value},(∀u∈vs,hU A u)->a0 (vs.map toV) vs|[],_=>.nil|u::r,h=>.cons (Ll (h u (WD ..))) (o6 λx a=>h x (WE _ a))
def iv(h:Heap)(A:List Addr)(a:Addr):Prop:=∃vs:List Value,vs.length<=sizeLine/\(∀u∈vs,hU A u)/\
 (h.get? a=some {cls:=.type "list",data:=.seq vs.toArray}\/h.get? a=some {cls:=.type "tuple",data:=.seq vs.toArray})
def iv.mono(k:∀a∈A,a∈B)(x:iv h A a):iv h B a:=by let(vs,ae,ag,b):=x;calc{vs,ae,λu c=>(ag u c).mono k,b}
theorem tQ:∀{vs:List Value}{ds:List WData},WellAll P h vs ds->vs.length=ds.length|_,_,.nil=>rfl|_,_,.cons _ b=>by show _+1=_+1;rw[tQ b]
def B'(x:Well P h v (.list ds)):∃(a:Addr)(vs:List Value),v=.ref a/\h.get? a=some {cls:=.type "list",data:=.seq vs.toArray}/\WellAll P h vs ds:=by
 cases x with
 |list c b=>nofun
def Ca(x:Well P h v (.tuple ds)):∃(a:Addr)(vs:List Value),v=.ref a/\h.get? a=some {cls:=.type "tuple",data:=.seq vs.toArray}/\WellAll P h vs ds:=by
 cases x with
 |tuple c b=>nofun
def Cb(x:WellAll P h us (d::ds)):∃v vs,us=v::vs/\Well P h v d/\WellAll P h vs ds:=by
 cases x with|cons a b=>grind
def Cc(h:n<=1048576):n<=sizeLine:=W1 h (by decide)
section
variable {P:Params}{h:Heap}
mutual
theorem Lm:∀(d:WData)(v:Value),Well P h v d->hh d=true->d.weight<=1048576->∃A:List Addr,hU A v/\∀a∈A,iv h A a
 |.none,_,x,_,_=>by cases x;calc{[],trivial,λa m=>absurd m (by simp)}
 |.bool b,_,x,_,_=>by cases x;calc{[],trivial,λa m=>absurd m (by simp)}
 |.int i,_,x,_,_=>by cases x;calc{[],trivial,λa m=>absurd m (by simp)}
 |.str s,_,x,_,_=>by cases x;calc{[],trivial,λa m=>absurd m (by simp)}
 |.bytes b,_,x,_,_=>by cases x;calc{[],trivial,λa m=>absurd m (by simp)}
 |.list ds,_,x,p,z=>by
  let(a,vs,rfl,cF,kB):=B' x;have eW:WData.weightAll ds<=1048576:=z;let(A,ae,ag):=tR ds _ kB p λd hd=>W1 (xA hd) eW;have k:∀b∈A,b∈a::A:=λb bD=>WE _ bD;refine{a::A,WD ..,λb bD=>?_};rcases WW.mp bD with e|m
  rw[e];exact{vs,Cc (by rw[tQ kB];calc W1 (aaf ds) eW),λu bg=>(ae u bg).mono k,.inl cF};calc(ag b m).mono k
 |.tuple ds,_,x,p,z=>by
  let(a,vs,rfl,cF,kB):=Ca x;have eW:WData.weightAll ds<=1048576:=z;let(A,ae,ag):=tR ds _ kB p λd hd=>W1 (xA hd) eW;have k:∀b∈A,b∈a::A:=λb bD=>WE _ bD;refine{a::A,WD ..,λb bD=>?_};rcases WW.mp bD with e|m
  rw[e];exact{vs,Cc (by rw[tQ kB];calc W1 (aaf ds) eW),λu bg=>(ae u bg).mono k,.inr cF};calc(ag b m).mono k
 |.float _,_,_,p,_=>Bool.noConfusion (show false=true from p)
 |.dict _,_,_,p,_=>Bool.noConfusion (show false=true from p)
 |.bytearray _,_,_,p,_=>Bool.noConfusion (show false=true from p)
 |.set _,_,_,p,_=>Bool.noConfusion (show false=true from p)
 |.frozenset _,_,_,p,_=>Bool.noConfusion (show false=true from p)
 |.obj _ _,_,_,p,_=>Bool.noConfusion (show false=true from p)
theorem tR:∀(ds:List WData)(vs:List Value),WellAll P h vs ds->iu ds=true->(∀d∈ds,d.weight<=1048576)->∃A:List Addr,(∀u∈vs,hU A u)/\∀a∈A,iv h A a
 |[],_,x,_,_=>by cases x;calc{[],λu m=>absurd m (by simp),λa m=>absurd m (by simp)}
 |d::ds,_,x,p,z=>by
  let(v,vs,rfl,gh,mB):=Cb x;have q:hh d=true/\iu ds=true:=aby.mp p;let(A,a1,a2):=Lm d v gh q.1 (z d (WD ..));let(B,cp,b4):=tR ds vs mB q.2 λe he=>z e (WE _ he);have Cd:∀b∈A,b∈A++B:=λb bD=>Xc.mpr (.inl bD);have Ce:∀b∈B,b∈A++B:=λb bD=>Xc.mpr (.inr bD);refine{A++B,λu bg=>?_,λb bD=>?_};rcases WW.mp bg with e|m
  rw[e];calc a1.mono Cd;calc(cp u m).mono Ce;rcases Xc.mp bD with m|m
  calc(a2 b m).mono Cd;exact(b4 b m).mono Ce
end
end
def tS(o:Obj):Option bH:=match o.data with|.seq vs _=>if(o.cls==Value.type "list")=true then some (.e1 o (.lst (vs.toList.map toV)))else some (.e1 o (.tup (vs.toList.map toV)))|_=>none
def fE(K:PySem.W.Frag)(h:Heap)(A:List Addr):am:=λb=>if b∈A then(if(K.lookup b).isNone=true then(h.get? b).bind tS else none)else none
def o7(H:am):Prop:=∀b,H b=none\/∃o u,H b=some (.e1 o u)
def Cf(vs:List Value):tS {cls:=.type "list",data:=.seq vs.toArray}=some (.e1 {cls:=.type "list",data:=.seq vs.toArray} (.lst (vs.map toV))):=by show(if(Value.type "list"==Value.type "list")=true then some (bH.e1 {cls:=.type "list",data:=.seq vs.toArray} (.lst (vs.toArray.toList.map toV)))else some (bH.e1 {cls:=.type "list",data:=.seq vs.toArray} (.tup (vs.toArray.toList.map toV))))=_;rw[WO (ZC _)]
def Cg(vs:List Value):tS {cls:=.type "tuple",data:=.seq vs.toArray}=some (.e1 {cls:=.type "tuple",data:=.seq vs.toArray} (.tup (vs.map toV))):=by show(if(Value.type "tuple"==Value.type "list")=true then some (bH.e1 {cls:=.type "tuple",data:=.seq vs.toArray} (.lst (vs.toArray.toList.map toV)))else some (bH.e1 {cls:=.type "tuple",data:=.seq vs.toArray} (.tup (vs.toArray.toList.map toV))))=_;rw[WM (by decide)]
section
variable {P:Program}{w:World}{K:PySem.W.Frag}{h:Heap}{A:List Addr}
def tT(a:b∈A)(ak:K.lookup b=none)(e:h.get? b=some o):fE K h A b=tS o:=by unfold fE;rw[WO a,ak,e]<;>rfl
def Ln(q:fE K h A b=some u):b∈A/\K.lookup b=none:=by
 unfold fE at q;by_cases a:b∈A;rw[WO a]at q;cases ak:K.lookup b with|none=>nofun|some o=>nofun
 nofun
def tU(d:∀a∈A,iv h A a)(q:fE K h A b=some u):K.lookup b=none/\∃vs:List Value,vs.length<=sizeLine/\(∀u∈vs,hU A u)/\
  ((h.get? b=some {cls:=.type "list",data:=.seq vs.toArray}/\u=.e1 {cls:=.type "list",data:=.seq vs.toArray} (.lst (vs.map toV)))\/
   (h.get? b=some {cls:=.type "tuple",data:=.seq vs.toArray}/\u=.e1 {cls:=.type "tuple",data:=.seq vs.toArray} (.tup (vs.map toV)))):=by
 let(c,ak):=Ln q;let(vs,ae,ag,f):=d b c;refine{ak,vs,ae,ag,?_};rcases f with e|e
 rw[tT c ak e,Cf]at q;calc .inl {e,(Xw q).symm};rw[tT c ak e,Cg]at q;calc .inr {e,(Xw q).symm}
def Lo (c:∀a∈A,iv h A a):o7 (fE K h A):=λb=>by
 cases q:fE K h A b with
 |none=>simp
 |some u=>
  obtain⟨_,vs,_,_,⟨_,e⟩|⟨_,e⟩⟩:=tU c q
  ·grind
  ·grind
def Lp (c:∀a∈A,iv h A a):cu P w (fE K h A) h:=λb u q=>by
 rcases tU c q with⟨_,vs,ae,ag,⟨e,rfl⟩|⟨e,rfl⟩⟩
 ·exact{e,by grind,vs,_,o6 ag,e}
 ·exact{e,by grind,vs,o6 ag,_,e,rfl,_,rfl}
def tV{vs us:List Value}(e:(some {cls:=c,data:=.seq vs.toArray}:Option Obj)=some {cls:=a,data:=.seq us.toArray}):c=a/\vs=us:=by grind
def Lq(d:K.In h)(f:∀a∈A,iv h A a){vs:List Value}(b:a∈A)(e:h.get? a=some {cls:=.type "list",data:=.seq vs.toArray}):(∀u∈vs,hU A u)/\au K (fE K h A) a (vs.map toV):=by
 let(us,ae,ag,g):=f a b;have i:us=vs:=by grind
 subst i;refine{ag,?_};cases ak:K.lookup a with
 |none=>calc .inl (.inr {_,by rw[tT b ak e,Cf]})
 |some o=>have c:=d a o ak;rw[e]at c;obtain rfl:=Xw c;exact .inr {_,us.toArray,_,ak,rfl,rfl,rfl,by omega,by simpa using o6 ag}
def Lr(d:K.In h)(f:∀a∈A,iv h A a){vs:List Value}(b:a∈A)(e:h.get? a=some {cls:=.type "tuple",data:=.seq vs.toArray}):(∀u∈vs,hU A u)/\bJ K (fE K h A) a (vs.map toV):=by
 let(us,ae,ag,g):=f a b;have i:us=vs:=by grind
 subst i;refine{ag,?_};cases ak:K.lookup a with|none=>calc .inl (.inr {_,by rw[tT b ak e,Cg]})|some o=>have c:=d a o ak;rw[e]at c;obtain rfl:=Xw c;exact .inr {_,us.toArray,_,ak,rfl,rfl,by omega,by simpa using o6 ag}
mutual
theorem Ls {xB:Params} (KX:K.In h) (e4:∀a∈A,iv h A a):∀(d:WData)(v:Value),Well xB h v d->hh d=true->hU A v->eP K (fE K h A) (toV v) d
 |.none,_,x,_,_=>by cases x;calc .bb
 |.bool b,_,x,_,_=>by cases x;calc .aG b
 |.int i,_,x,_,_=>by cases x;calc .int i
 |.str s,_,x,_,_=>by cases x;calc .str s
 |.bytes b,_,x,_,_=>by cases x;have z:=eP.fX (K:=K) (H:=fE K h A) b.toArray;calc z
 |.list ds,_,x,p,bg=>by let(a,vs,rfl,cF,kB):=B' x;let(ag,hs):=Lq KX e4 bg cF;calc .lst hs (tW KX e4 ds _ kB p ag)
 |.tuple ds,_,x,p,bg=>by let(a,vs,rfl,cF,kB):=Ca x;let(ag,hs):=Lr KX e4 bg cF;calc .tup hs (tW KX e4 ds _ kB p ag)
 |.float _,_,_,p,_=>Bool.noConfusion (show false=true from p)
 |.dict _,_,_,p,_=>Bool.noConfusion (show false=true from p)
 |.bytearray _,_,_,p,_=>Bool.noConfusion (show false=true from p)
 |.set _,_,_,p,_=>Bool.noConfusion (show false=true from p)
 |.frozenset _,_,_,p,_=>Bool.noConfusion (show false=true from p)
 |.obj _ _,_,_,p,_=>Bool.noConfusion (show false=true from p)
theorem tW {xB:Params} (KX:K.In h) (e4:∀a∈A,iv h A a):∀(ds:List WData)(vs:List Value),WellAll xB h vs ds->iu ds=true->(∀u∈vs,hU A u)->hT K (fE K h A) (vs.map toV) ds
 |[],_,x,_,_=>by cases x;calc .nil
 |d::ds,_,x,p,bg=>by let(v,vs,rfl,gh,mB):=Cb x;have q:hh d=true/\iu ds=true:=aby.mp p;exact .cons (Ls KX e4 d v gh q.1 (bg _ (WD ..))) (tW KX e4 ds vs mB q.2 λu m=>bg u (WE _ m))
end
end
def Lu {P:Program}{w:World}{K:PySem.W.Frag}{mg I:Str->Option Value}{CX:eD}{k:Nat}{W:Addr}{fd:FuncData}{ps:List Str}{sp:bE}{a:Shared}{c:List Value}{ds:List WData}{R:WRecords}{cl:Str->Option Addr}{d0:WData}
  (J:K.In a.heap) (p:a.heap.Ns mainGlobals mg) (L:a.heap.Ns builtinsNs I) (M:∀x:Str,x≠ "__name__"->I x=bootBuiltins x) (t:a.heap.NoLimit) (dW:a.gens= #[])
  (i:WellAll w.params a.heap c ds) (y:iu ds=true) (N:∀d∈ds,d.weight<=1048576) (bF:b2 k callerA)
  (F:∀base:Heap,K.In base->base.Ns mainGlobals mg->dU P w K mg base CX k W fd ps sp) (j:∀(s:Shared) (us:List Value),us.length=ps.length->BindsTo s fd {us,[]} (ps.zip us)) (B:ds.length=ps.length)
  (O:∀(H:am) (xs:List V),o7 H->hT K H xs ds->sp xs H (λv aj=>eP K aj v d0) λ_ _ _=>False)
  (Q:∀H e s',CX [] H a (λ_ _ _=>False) e s'->False):
  codeAny (model P w) callerA (.call (.ref W) {c,[]}) (λr s'=>∃u as,r= .ok (.ret u)/\ReadsW R cl s'.heap u d0 as/\OldK a.heap s'.heap/\s'.os=a.os/\AllBare s'.gens) a:=by
 let(A,X,C):=tR ds c i y N;have S:o7 (fE K a.heap A):=Lo C;have aS:cu P w (fE K a.heap A) a.heap:=Lp C;have Y:=tW J C ds c i y X;have Lv:=o6 X;have Z:∀b u,fE K a.heap A b=some u->K.lookup b=none:=λb u q=>(tU C q).1;have D:∀ {b:Addr}{o:Obj}{ay:Array DictEntry}{l:Nat},a.heap.get? b=some o->o.data= .dict ay l->fE K a.heap A b=none:=λ{b o ay l} e d=>by
  cases q:fE K a.heap A b with
  |none=>rfl
  |some u=>
   obtain⟨_,vs,_,_,⟨E,_⟩|⟨E,_⟩⟩:=tU C q
   ·grind
   ·grind
 generalize fE K a.heap A=H at S aS Y Z D;have f:∀ {b:Addr}{o:Obj},a.heap.get? b=some o->H b=none->(kb a.heap H).get? b=some o:=λe n=>IT e n;have g:∀ {b:Addr}{m:Str->Option Value},a.heap.Ns b m->(kb a.heap H).Ns b m:=λ{b m} ⟨o,ay,l,e,d,r⟩=>{o,ay,l,f e (D e d),d,r};have Lw:∀b o,K.lookup b=some o->H b=none:=λb o e=>by
  cases q:H b with
  |none=>rfl
  |some u=>
   grind
 have G:K.In (kb a.heap H):=λb o e=>f (J b o e) (Lw b o e);have Lx:Mod K mg (kb a.heap H):={G,g p,{I,g L,M},have⟨Ly,ae,ag⟩:=t;{Ly,g ae,ag}};have iG:jy P w K mg (kb a.heap H) callerA [] a H:={rfl,Lx,λb o e=>IU e,aaF (IS _ _),trivial,λb L=>absurd (show b∈([]:List Addr) from L) (by simp),aS,.of_eq dW};have hl:c.length=ps.length:=by rw[tQ i];exact B
 refine abj ((F _ G (g p)).run callerA [] a H {c,[]} c (c.map toV) _ _ bF iG (j a c hl) Lv (O H _ S Y)) λr s' x=>?_;cases r with
 |error e=>calc(Q H e s' x).elim
 |ok fl=>
  cases fl with
  |next=>calc False.elim x
  |brk=>calc False.elim x
  |cont=>calc False.elim x
  |ret u=>
   let(v,aj,os,bare,un,h,lB,q):=x;have kept:∀b o,a.heap.get? b=some o->s'.heap.get? b=some o:=λb o e=>by
    cases eB:H b with
    |none=>exact un.keep b o e eB (by intro z;exact absurd (show b∈([]:List Addr) from z) (by simp)) (by simp)
    |some oc=>
     rcases S b with z|⟨wG,qo,z⟩
     ·rw[eB]at z
      cases z
     ·have eW:=un.fe b wG _ z
      let(cx,_):=aS b _ z;let(E,_):=h b _ eW;rw[e]at cx;cases cx;exact E
   have T:K.In s'.heap:=λb o e=>kept b o (J b o e);let(as,U):=eP.reads (R:=R) (cl:=cl) h T d0 v u q lB;calc{u,as,rfl,U,OldK.of_keep kept,os,bare}
def Lz(h:WData.layableAll ds=true):∀d∈ds,d.weight<=1048576:=λd hd=>(PySem.W.layableW_iff.mp (XD.mp h d hd)).2.2
theorem Ch:∀b a,(Codec.encAll b a).length=b.length|[],_=>rfl|c::b,a=>by show(Codec.encAll b a.2).length+1=b.length+1;rw[Ch b a.2]
def LA{r:OpenSpec}{q:Program}{K:Params->PySem.W.Frag}{CX:World->eD}{sp:World->bE}
  (c:r.wellSaid=true) (I:d.params.defaults=[]) (g:r.args.length=ps.length) (J:b2 k callerA)
  (L:∀(w:World)(h:Heap),p w h->(K w.params).In h)
  (F:∀(w:World)(mg:Str->Option Value)(n:Addr)(h:Heap),p w h->(K w.params).In h->h.Ns mainGlobals mg->mg d.name=some (.ref n)->
   ∃fd:FuncData,(∀(s:Shared)(us:List Value),us.length=ps.length->BindsTo s fd {us,[]} (ps.zip us))/\
    ∀base:Heap,(K w.params).In base->base.Ns mainGlobals mg->dU r.prog w (K w.params) mg base (CX w) k n fd ps (sp w))
  (t:∀(w:World)(H:am)(xs:List V)(a:Codec.denoteAll r.args),o7 H->Codec.withinAll r.args a=true->Codec.app r.args r.asked a=true->hT (K w.params) H xs (Codec.encAll r.args a)->
   sp w xs H (λv aj=>eP (K w.params) aj v (r.ret.enc (Codec.app r.args r.f a))) λ_ _ _=>False)
  (x:∀(w:World)(H:am)(s:Shared)(e:Value)(s':Shared),CX w [] H s (λ_ _ _=>False) e s'->False):
  WalkOS q b E p r d [] (λf vs=>PySem.call f vs):=by
 intro w s_0 i mg wE G Y n o pm cd doc UU cb cF hd M dx y N args C as j l O A P;let(a,Q,S):=PySem.W.os_pre_some j;let(T,m):=Codec.encAll_of_decAll r.args args a Q;subst T;have D:=L w _ Y;let(fd,U,W):=F w mg n _ Y D G.T.g y;refine PySem.W.enter_call (abj (Lu (R:=[]) (cl:=classAt s_0.heap) (d0:=r.ret.enc (Codec.app r.args r.f a)) D G.T.g G.T.b G.T.builtins G.T.nolimit N A (B_ _ _) (Lz l) J W U (by rw[Ch];calc g)
  (λH xs X Z=>t w H xs a X m S Z) λH e s'=>x w H i e s') λlB s' a9=>?_)
 let(u,B,rfl,ae,ag,bR,bP):=a9;calc{.inl {u,_,B,rfl,λ_=>rfl,ae,(OpenSpec.post_iff c m _ _).mpr rfl,λz=>Bool.noConfusion (show false=true from z)},ag,bR,bP}
def UV {r:OpenSpec}{k:Nat}{q:Program}{b:List Str}{o:(Str->Option Value)->Heap->Prop}{i:World->Heap->Prop}{d:DefRec}{K:Params->PySem.W.Frag}{CX:eD}{ps:List Str}{sp:PySem.W.Frag->bE}
  (c:r.wellSaid=true) (j:d.params.defaults=[]) (g:r.args.length=ps.length) (p:b2 k callerA)
  (t:∀(w:World) (h:Heap),i w h->(K w.params).In h)
  (F:∀(w:World) (mg:Str->Option Value) (n:Addr) (h:Heap),i w h->(K w.params).In h->h.Ns mainGlobals mg->mg d.name=some (.ref n)->
   ∃fd:FuncData,(∀(s:Shared) (us:List Value),us.length=ps.length->BindsTo s fd {us,[]} (ps.zip us))/\
    ∀base:Heap,(K w.params).In base->base.Ns mainGlobals mg->dU r.prog w (K w.params) mg base CX k n fd ps (sp (K w.params)))
  (l:∀(K:PySem.W.Frag) (H:am) (xs:List V) (a:Codec.denoteAll r.args),o7 H->Codec.withinAll r.args a=true->Codec.app r.args r.asked a=true->hT K H xs (Codec.encAll r.args a)->
   sp K xs H (λv aj=>eP K aj v (r.ret.enc (Codec.app r.args r.f a))) λ_ _ _=>False)
  (m:∀(H:am) (s:Shared) (e:Value) (s':Shared),CX [] H s (λ_ _ _=>False) e s'->False):
  WalkOS q b o i r d [] (λf vs=>PySem.call f vs):=
 LA (K:=K) (CX:=λ_=>CX) (sp:=λw=>sp (K w.params)) c j g p t F (λw H xs a ae ag u x=>l (K w.params) H xs a ae ag u x) λ_ H s e s'=>m H s e s'
end L2

namespace kC
open PySem PySem.Spec PyProof.Rows L2
def hV(C e ao T:Addr)(fl:Value)(h:Heap):Prop:=
 ∃a vs b c,h.get? e=some a/\a.cls=.ref C/\a.dict=some ao/\a.data=.fields vs/\vs[1]? =some (.ref T)/\T≠e/\
  h.get? T=some b/\b.data=.fields c/\c[3]? =some fl
def xC(C e ao:Addr)(h:Heap):Prop:=
 ∃a vs,h.get? e=some a/\a.cls=.ref C/\a.dict=some ao/\a.data=.fields vs/\vs[1]? =some .none
def Moved(fs ex:List Addr)(h h':Heap):Prop:=
 ∀b o,h.get? b=some o->b∉ex->(b∉fs->h'.get? b=some o)/\∃a3,h'.get? b=some {o with slots:=a3}
def Moved.trans(x:Moved fs ex h ae)(y:Moved fs ex ae ag):Moved fs ex h ag:=λb o q n=>by let(d,a3,e):=x b o q n;let(_,a,f):=y b _ e n;calc{λc=>(y b o (d c) n).1 c,a,f}
def Moved.mono(x:Moved fs ex h h')(a:∀b∈fs,b∈iW)(c:∀b∈ex,b∈q2):Moved iW q2 h h':=λb o q n=>{λd=>(x b o q λz=>n (c b z)).1 λz=>d (a b z),(x b o q λz=>n (c b z)).2}
def Ci(o:Obj)(f):(o.mapFields f).dict=o.dict:=by let(c,d,a,a3):=o;cases a<;>rfl
section
variable {M:Model}{A:Around}{E:Value->Shared->Prop}{s:Shared}
def LB{h base:Heap}(hl:h.FunFrames base l)(b:h.get? e=some o)(hd:o.data=.fields vs):e∉cE l:=λm=>by let(_,u,a,c):=hl.mem m;rw[b]at a;cases a;calc c vs hd
def entry
  (m:A.frames=some (env::outer)) (hl:s.heap.FunFrames base (env::outer)) (x:env.frame=some L) (t:s.heap.get? e=some l) (hd:l.data=.fields vs) (hz:1<vs.size)
  (k:∀h' T u d,h'.get? e=some (l.mapFields (·.setIfInBounds 1 (.ref T)))->s.heap.objs.size<=T->T≠e->h'.get? T=some u->u.data=.fields d->d[3]? =some (rawInt L)->
   Moved (cE (env::outer)) [e] s.heap h'->Q () {s with heap:=h'}):
  wpAny M A (do let xD<-frameOf env;let pl<-entryPlaceOf L w;let b<-EntryCells.newEntry c xD .none (rawInt L) .none pl;setField (.ref e) 1 b) Q E s:=by
 have n:=LB hl t hd;refine wpAny_bind (wpAny_frameOf_fun m hl x λf a=>wpAny_bind (wpAny_entryPlaceOf λpl y=>?_));have g:f.get? e=some l:=by rwa[a.2.1 e n]
 unfold EntryCells.newEntry newFields;refine wpAny_bind (wpAny_newObj_type ?_ (y.sizeOk5 _ _ _ _ _));generalize p:([c,Value.ref L,Value.none,rawInt L,Value.none]++(if pl.isEmpty then List.replicate 6 Value.none else pl)).toArray=d;have B:d[3]? =some (rawInt L):=by subst p;simp
 have i:=W4 {cls:=.type "traceback",dict:=none,data:=.fields d} g;refine abD i hd hz ?_;have v:=Xr (W' g);refine k _ f.objs.size {cls:=.type "traceback",dict:=none,data:=.fields d} d ?_ ?_ v ?_ rfl B λb o q C=>?_;calc Zr _ i (Obj.isFreed_of_fields (Zk hd _));calc aaF a.1.symm;calc(X7 _ _ (XE v)).trans (Xy f rfl);have j:e≠b:=λz=>C (by rw[z];simp);refine{λD=>?_,?_};refine(X7 _ _ j).trans (W4 _ ?_);rwa[a.2.1 b D];let(a3,r):=a.2.2 b o q;calc{a3,(X7 _ _ j).trans (W4 _ r)}
def Cj
  (a:A.frames=some (env::outer)) (hl:s.heap.FunFrames base (env::outer)) (c:env.frame=some L) (f:xC C e ao s.heap)
  (k:∀h' T,hV C e ao T (rawInt L) h'->s.heap.objs.size<=T->Moved (cE (env::outer)) [e] s.heap h'->Q () {s with heap:=h'}):wpAny M A (noteFrame (.ref e) env) Q E s:=by
 let(q,vs,d,hc,b,hd,ae):=f;have hz:1<vs.size:=(YU.mp ae).1;unfold noteFrame;erw[c];refine wpAny_bind (abM d hd ae ?_);rw[WM (by decide)];refine entry a hl c d hd hz λh' T g h i j l m n o p=>k h' T {_,_,g,h,i,?_,?_,Zk hd _,?_,l,m,n,o} j p;rw[Obj.cls_mapFields];calc hc;rw[Ci];calc b;nofun
def Ck{base:Heap}{env:Env}{outer:List Env}{L C e ao a:Addr}{Q:Unit->Shared->Prop}
  (f:A.frames=some (env::outer)) (hl:s.heap.FunFrames base (env::outer)) (r:env.frame=some L) (x:hV C e ao a .none s.heap)
  (k:∀h' T,hV C e ao T (rawInt L) h'->s.heap.objs.size<=T->Moved (cE (env::outer)) [e,a] s.heap h'->Q () {s with heap:=h'}):wpAny M A (noteFrame (.ref e) env) Q E s:=by
 let(y,vs,t,h,u,hc,i,hd,ae,ne,j,c,v):=x;have hz:1<vs.size:=(YU.mp ae).1;unfold noteFrame;erw[r];refine wpAny_bind (abM u hd ae ?_);rw[WO (show(Value.ref a !=Value.none)=true by simp)];refine wpAny_bind (abM j c v ?_);rw[WM (show¬(Value.none==rawInt L)=true by simp[rawInt])];refine wpAny_bind (abD j c (YU.mp v).1 ?_);generalize w:s.heap.update a (Obj.mapFields (·.setIfInBounds 3 Value.none))=g;have jl:∀b,b≠a->g.get? b=s.heap.get? b:=λb l=>by subst w;exact X7 _ _ (XE l)
 have B:Moved (cE (env::outer)) [e,a] s.heap g:=λb o q l=>by have d:b≠a:=λz=>l (by nofun);exact{λ_=>(jl b d).trans q,o.slots,(jl b d).trans q}
 have n:g.get? e=some y:=(jl e (XE ne)).trans u;have p:g.FunFrames base (env::outer):=hl.of_keeps λb o q D=>{o,(jl b (λz=>by erw[z,j]at q;cases q;calc D h c)).trans q,rfl};refine entry (s:= {s with heap:=g}) f p r n hd hz λh' T t h F G H I J K N=>k h' T {_,_,t,h,F,?_,?_,Zk hd _,?_,H,I,J,K} ?_ (B.trans (N.mono (λ_ m=>m) λb m=>?_));rw[Obj.cls_mapFields];calc hc;rw[Ci];calc i;simp[hz];have z:g.objs.size=s.heap.objs.size:=by subst w;exact Heap.size_after_update ..
 rw[<-z];calc G;nofun
def unmark {C e ao T:Addr}{fl:Value}{Q:Unit->Shared->Prop} (i:hV C e ao T fl s.heap)
  (k:∀h',hV C e ao T .none h'->Moved [] [T] s.heap h'->Q () {s with heap:=h'}):wpAny M A (setFlight (.ref e) none) Q E s:=by
 let(j,vs,p,l,g,hc,c,hd,ae,ne,h,a,m):=i;have hz:3<l.size:=(YU.mp m).1;unfold setFlight;refine wpAny_bind (abM g hd ae ?_);rw[WO (show(Value.ref T !=Value.none)=true by simp)];refine abD h a hz (k _ {j,vs,_,_,(X7 _ _ ne).trans g,hc,c,hd,ae,ne,Zr _ h (Obj.isFreed_of_fields (Zk a _)),Zk a _,?_} λb o q n=>?_)
 ·nofun
 ·have d:T≠b:=λz=>n (by nofun)
  have r:=(X7 (f:=Obj.mapFields (·.setIfInBounds 3 ((none:Option Addr).elim Value.none λf=>rawInt f))) s.heap d).trans q
  calc{λ_=>r,o.slots,r}
def leave
  (a:A.frames=some (env::outer)) (hl:s.heap.FunFrames base (env::outer)) (h:env.frame=some L)
  (f:(xC C e ao s.heap/\ex=[e])\/∃g,hV C e ao g .none s.heap/\ex=[e,g])
  (k:∀h' T,hV C e ao T .none h'->s.heap.objs.size<=T->Moved (cE (env::outer)) ex s.heap h'->Q () {s with heap:=h'}):wpAny M A (leaving env (.ref e)) Q E s:=by
 have c:∀h' T,hV C e ao T (rawInt L) h'->s.heap.objs.size<=T->Moved (cE (env::outer)) ex s.heap h'->wpAny M A (setFlight (.ref e) none) Q E {s with heap:=h'}:=λh' T l i n=>by
  refine unmark l λag p j=>k ag T p i λb o q r=>?_;let(t,a3,u):=n b o q r;have d:b∉ [T]:=λm=>by rw[WQ.mp m]at q;exact absurd (W' q) (ZZ.mpr i)
  exact{λv=>(j b o (t v) d).1 (by simp),a3,(j b _ u d).1 (by simp)}
 rcases f with⟨w,rfl⟩|⟨g,f,rfl⟩;calc wpAny_bind (Cj a hl h w c);calc wpAny_bind (Ck a hl h f c)
end
open Builtin Builtin.ObjectAttr
abbrev nh:List Value:=[.type "ValueError",.type "Exception",.type "BaseException",.type "object"]
section
variable {prog:Program}{w:World}{A:Around}{E:Value->Shared->Prop}{h:Heap}{g:Array GenState}{d:Drawn}{t:Nat}{os:OsState}
variable {nm q:Str}{C N x:Addr}{bs bm:List Value}{sn:List Str}{sub:List Value}{ab:Bool}{col:Option Bool}{dd:Option Addr}{k0 k1 k2 k3 k5:Option Value}{B newId jx owner:String}
 {xE:Str->Option Value}{name:Str}{v:Value}
def LC(a:StoreFacts B bm jx owner)(p:h.get? C=some (excClassObj nm q C N bs bm true sn sub ab col dd k0 k1 k2 k3 k5 newId))(R:h.Ns N xE)(S:xE "__setattr__"=none)(T:xE name=none)
  (U:typeLookup (.type B) name=pure none) (j:h.get? x=some o) (hc:o.cls=.ref C) (s:∀c,o.data≠.cls c) (D:o.dict=none)
  (k:∀h' tk,h'.get? x=some {o with dict:=some h.objs.size}->h'.Ns1 h.objs.size (λy=>if y=name then some v else none)->(∀b u,b≠x->h.get? b=some u->h'.get? b=some u)->Q () ⟨h',g,d,tk,os⟩):
  wpAny (model prog w) A (setAttr (.ref x) name v) Q E ⟨h,g,d,t,os⟩:=by
 have Y:=a.slot.bind (.ref x);have f:=a.passes (.ref x);repeat (any_goals (first|assumption|(with_reducible refine wpAny_loadPart_at j ?_;rw[hc])|(with_reducible refine wpAny_typeLookup_exc p R a.mro a.slot.lookup ?_;rw[S])|wp_step))
 refine codeAny_call_builtin a.slot.plain a.entry (wpAny_check_sa a p j hc ?_);repeat (first|rw[refuse_eq]|(rw[refuseLoop_ref,f])|(with_reducible refine wpAny_loadPart_at j ?_;rw[hc])|with_reducible refine wpAny_mroOf_exc p ?_|(with_reducible refine wpAny_typeLookup_exc p R a.mro U ?_;rw[T])|wp_step)
 rw[WM (by simp[typeHasDict])];split;nofun;split;nofun;have l:(h.push {cls:=.type "dict",data:=.dict #[]}).get? x=some o:=W4 _ j;have m:=Xz (W' j);refine wpAny_bind (wpAny_alloc' (wpAny_bind (wpAny_update' l (wpAny_pure ?_))));generalize i:((h.push {cls:=.type "dict",data:=.dict #[]}).update x λo=> {cls:=o.cls,dict:=some h.objs.size,data:=o.data,slots:=o.slots})=g2;have F:g2.get? h.objs.size=some {cls:=.type "dict",data:=.dict #[]}:=by subst i;exact(Heap.get?_update_ne _ _ _ _ m.symm).trans (Heap.get?_push_at rfl rfl)
 have G:g2.get? x=some {o with dict:=some h.objs.size}:=by subst i;refine Zr _ l ?_;have H:=(Heap.get?_some_iff.mp j).2;let(ff,cD,I,fB):=o;cases I<;>first|rfl|exact H
 have J:∀b u,b≠x->h.get? b=some u->g2.get? b=some u:=λb u K r=>by subst i;exact(Heap.get?_update_ne _ _ _ _ K).trans (W4 _ r)
 refine wpAny_bind (wpAny_pure (wpAny_bind (wpAny_nsSet1 (Heap.Ns1.of_empty ({_,#[],_,F,rfl,λe V=>absurd V (by simp),λ_=>rfl})) λh' n hs=>?_)));let(Z,W,X,M,O,P):=n.count (abO name v Within.nil);refine wpAny_bind (wpAny_lookBehind M (by rw[O];calc pastItsLine_dict (W1 P (by simp))) ?_);wp_walk;calc k h' _ ((hs.2 x m).trans G) n λb u K r=>(hs.2 b (Xz (W' r))).trans (J b u K r)
end
def LD:typeLookup (.type "ValueError") "code"=pure none:=by kernel_rfl
def LF:typeLookup (.type "ValueError") "place"=pure none:=by kernel_rfl
def LG{K:PySem.W.Frag}{h:Heap}{N:Addr}{n:Str}{v:Value}(X:K.In h)(G:h.Ns N a)(e:nsIn K N n=some (some v)):a n=some v:=by let(o,ay,j,b,hd,_,f):=G;unfold nsIn at e;split at e;rename_i c d g k a3 q;have z:=X _ _ q;rw[b]at z;cases z;cases hd;split at e;rename_i y i;rw[<-f];unfold nsFind findBy;rw[<-aaE,i];calc Xw e;lia;nofun
abbrev kD:String:= "BaseException.__getattribute__"
def Cm(K:PySem.W.Frag)(C:Addr):Prop:=(∃nm q N bs sn sub ab col dd k0 k1 k2 k3 k5,K.lookup C=some (excClassObj nm q C N bs nh true sn sub ab col dd k0 k1 k2 k3 k5 "ValueError.__new__"))/\findIn K (.ref C) "__getattribute__"=some (some (.builtin kD))/\findIn K (.ref C) "__getattr__"=some none/\hasDictIn K C=true
structure rz(K:PySem.W.Frag)(C jC:Addr)(fd:FuncData)(st:Stmt):Prop where
 cls:∃nm q N bs sn sub ab col dd k0 k1 k2 k3 k5,K.lookup C=some (excClassObj nm q C N bs nh true sn sub ab col dd k0 k1 k2 k3 k5 "ValueError.__new__")/\nsOkIn K N=true/\
  nsIn K N "__init__"=some (some (.ref jC))/\nsIn K N "__setattr__"=some none/\nsIn K N "code"=some none/\nsIn K N "place"=some none
 cL:keepIn K (.ref C)=true
 LH:∃o,K.lookup jC=some o/\o.cls=.type "function"
 F:ir K "__init__" "Fault.__init__" st jC fd
 binds:Binds K fd ["self","code","place"] []
 sc:fA ["self","code","place"] ["self","code","place"] (bL st)
 loc:∀x∈(["self","code","place"]:List Str),(bL st).names.lookup x=some .local
 body:∃jD bn lM i_ fp eB o8 o9,eO st=[.Assign [.Attribute (.Name "self" jD) "code" bn] (.Name "code" lM) i_,.Assign [.Attribute (.Name "self" fp) "place" eB] (.Name "place" o8) o9]
 Co:Cm K C
 LI:findIn K (.ref C) "code"=some none
 LJ:findIn K (.ref C) "place"=some none
def xF(a b:Value):Str->Option Value:=λy=>if y= "place" then some b else if y= "code" then some a else none
section
variable {prog:Program}{w:World}{K:PySem.W.Frag}{C jC:Addr}{fd:FuncData}{st:Stmt}
def LK(X:rz K C jC fd st)(v:A.depth<recursionLimit)(J:K.In s.heap)(L:s.heap.NoLimit)
  (M:s.heap.get? e=some o) (hc:o.cls=.ref C) (hd:o.dict=none) (hf:∃vs,o.data=.fields vs) (G:∀a u,K.lookup a=some u->a≠e)
  (k:∀h' ao tk,h'.get? e=some {o with dict:=some ao}->s.heap.objs.size<=ao->h'.Ns1 ao (xF h t)->(∀b u,b≠e->s.heap.get? b=some u->h'.get? b=some u)->Q .none {s with heap:=h',toks:=tk}):
  wpAny (model prog w) A (call (.ref jC) [.ref e,h,t]) Q E s:=by
 let(ff,cD,cb,doc,pm,an,a_,ct,fB,rfl,lk,O):=X.F.ex;let(nm,q,N,bs,sn,sub,ab,col,dd,k0,k1,k2,k3,k5,P,H,xG,ni,ro,xH):=X.cls;let(jD,bn,lM,i_,fp,eB,o8,o9,bD):=X.body;have I:∀c,o.data≠.cls c:=λc z=>by let(vs,y):=hf;rw[y]at z;cases z
 have B:=X.loc "self" (by simp);have D:=X.loc "code" (by simp);have j:=X.loc "place" (by simp);refine wpAny_call (codeAny_call_function v (J _ _ lk) rfl X.sc.co X.sc.gen rfl (codeRec_of J O) (X.binds s [.ref e,h,t] J rfl _ _ _ _ ?_));refine aaA X.sc.kind (λy aN=>Or.inl (X.loc y.1 ?_)) λenv f s1 x=>?_;rcases WW.mp aN with rfl|aN
 simp;rcases WW.mp aN with rfl|aN
 simp;rcases WW.mp aN with rfl|aN
 simp;cases aN;have l:=x.toInCall.ns;have d:=x.toInCall.fresh;let(ae,tk,rfl,ak):=x.done;have m:env.scope.kind=.function:=by rw[f];exact X.sc.kind
 have R:env.kindOf "self"=some .local:=by rw[f];exact B
 have Cp:env.kindOf "code"=some .local:=by rw[f];exact D
 have Cq:env.kindOf "place"=some .local:=by rw[f];exact j
 have Cr:bindL env.kindOf ((["self","code","place"]:List Str).zip ([.ref e,h,t]++[])) (λ_=>none) "self"=some (.ref e):=ri (i:=0) X.sc.nd rfl rfl R;have T:env.locals≠e:=λz=>by rw[z]at d;exact absurd (W' M) (ZZ.mpr d)
 have g:K.In ae:=J.keeps ak;refine{L.keeps ak,codeAny_func ?_};show wpAny _ _ (execs (eO st) env) _ _ _;rw[bD];have U:=abn (aaI g H);refine Z7 (Y6 (aak (YP m Cp l (ri (i:=1) X.sc.nd rfl rfl Cp) (aak (YP m R l Cr ?_)))));refine LC F.store_ValueError (g _ _ P) U (ZQ g U ni) (ZQ g U ro) LD (ak _ _ M) hc I hd λag Cs V a2 W=>?_;have n:K.In ag:=λa u r=>W a u (G a u r) (g a u r);have p:ag.Ns env.locals _:=l.at λu r=>W _ u T r;have Y:=abn (aaI n H);have hsz:ae.objs.size≠e:=Xr (W' (ak _ _ M));show wpAny _ _ (execs [_] env) _ _ _;refine Z7 (Y6 (aak (YP m Cq p (ri (i:=2) X.sc.nd rfl rfl Cq) (aak (YP m R p Cr ?_)))));refine store_attr F.store_ValueError (n _ _ P) Y (ZQ n Y ni) (ZQ n Y xH) LF (G _ _ P).symm ({_,V,hc,I,.inr {_,rfl,hsz,a2}}) (λbR Z o1 cp b4=>?_) (abO "code" h Within.nil) (by simp[WJ]);let(cc,cB,bX,xI,rA,LN):=b4 _ V;have LO:=LN _ rfl;have LP:cc= {o with dict:=some ae.objs.size}:=by let(gh,mB,UW,UX):=cc;cases bX;cases xI;cases rA;cases LO;rfl
 rw[LP]at cB;refine Zq ?_;let(d8,g1,g2,g3,xJ):=o1;rw[cB]at g1;cases g1;have hle:s.heap.objs.size<=ae.objs.size:=by
  rcases Nat.lt_or_ge ae.objs.size s.heap.objs.size with z|z
  exfalso;have fK:=l.lt;calc absurd (Xq fK (Yg z)) (ZZ.mpr d);exact z
 refine k bR ae.objs.size Z cB hle ?_ λb u nb r=>cp b u nb (λo0 ao r1 r2=>?_) (W b u nb (ak b u r));rcases xJ with⟨z,_⟩|⟨ao,fK,eW,Aw⟩
 cases z;cases fK;calc Aw;rw[V]at r1;cases r1;cases r2;calc Xz (W' (ak b u r))
end
def eQ(P:Program)(w:World)(C:Addr):eD:=λouter H s E ev s'=>
 ∃e ao T aj,ev=.ref e/\s'.os=s.os/\AllBare s'.gens/\cK (cE outer) [] H aj s.heap s'.heap/\cu P w aj s'.heap/\hV C e ao T .none s'.heap/\
  s.heap.get? e=none/\s.heap.get? T=none/\aj e=none/\aj T=none/\E (.ref C) (some ao) aj
def Out(X:aR)(C:Addr)(E:b8):Prop:=
 ∀pins(aa:L2.St)H s aj s'(e ao)ex,Inv X pins aa H s->cK (cE X.stack) [] H aj s.heap s'.heap->cu X.prog X.w aj s'.heap->s'.os=s.os->AllBare s'.gens->
  ((xC C e ao s'.heap/\ex=[e])\/∃a,hV C e ao a .none s'.heap/\ex=[e,a])->(∀b∈ex,s.heap.get? b=none/\aj b=none)->E (.ref C) (some ao) aj->X.xe (.ref e) s'
def xK(o:Out X C E):Passes (eQ X.prog X.w C) X E:=by
 intro pins aa H s ev s' I h;let(e,ao,T,aj,rfl,ae,ag,c,d,f,g,i,j,k,a):=h;refine o pins aa H s aj s' e ao [e,T] I c d ae ag (.inr ⟨T,f,rfl⟩) (λb bD=>?_) a;rcases WW.mp bD with rfl|bD;nofun;nofun
theorem Ct{h h' base:Heap}:∀{l:List Env},h.FunFrames base l->(∀b∈cE l,∀o,h.get? b=some o->∃a3,h'.get? b=some {o with slots:=a3})->h'.FunFrames base l
 |[],_,_=>trivial|env::r,⟨ak,⟨L,o,c,d,f,hd⟩,g⟩,k=>by
  have m:∀b,b∈cE r->b∈cE (env::r):=λb a=>by unfold cE at a⊢;rw[YC,c];exact WE _ a
  have i:L∈cE (env::r):=by unfold cE;rw[YC,c];exact WD
  let(a3,e):=k L i o f;calc{ak,{L,_,c,d,e,hd},Ct g λb a=>k b (m b a)}
section
variable {X:aR}{pins:List (Addr×Obj)}{aa:L2.St}{H aj:am}{s s':Shared}{f3:Heap}{ex:List Addr}
def Cu(I:Inv X pins aa H s)(u:cK (cE X.stack) [] H aj s.heap s'.heap):s'.heap.FunFrames X.base X.stack:=
 Ct I.stack λb a o q=>u.any q (I.stkFree b a) (by simp)
def Cv (I:Inv X pins aa H s) (u:cK (cE X.stack) [] H aj s.heap s'.heap) (aS:cu X.prog X.w aj s'.heap) (m:Moved (cE X.stack) ex s'.heap f3) (d:∀b∈ex,aj b=none):cu X.prog X.w aj f3:=by
 have e:∀b,b∈cE X.stack->aj b=none:=λb bD=>by
  let(_,o,f,_):=I.stack.mem bD;exact u.free b o f (I.stkFree b bD) (by simp)
 have cL:∀b o v,aj b=some o->s'.heap.get? b=some v->f3.get? b=some v:=λb o v bD q=>
  (m b v q λz=>by rw[d b z]at bD;cases bD).1 λz=>by rw[e b z]at bD;cases bD
 intro a o c;refine(aS a o c).ij (λb v bD q=>?_) (λ_ q=>q) λ_ _ q=>q;rcases bD with rfl|bD
 ·grind
 ·grind
def LQ(I:Inv X pins aa H s)(f:X.ex=[])(u:cK (cE X.stack) [] H aj s.heap s'.heap)(m:Moved (cE X.stack) ex s'.heap f3)(h:∀b∈ex,s.heap.get? b=none):cK X.fs [] X.H_0 aj X.s_0.heap f3:=by
 have nx:∀b o,s.heap.get? b=some o->b∉ex:=λb o q z=>by rw[h b z]at q;cases q
 have B:=I.base;rw[f]at B;have g:∀b o,X.s_0.heap.get? b=some o->b∉X.fs->b∉cE X.stack:=λb o q d z=>by
  rcases WW.mp (I.stkSub b z)with r|r
  calc absurd (W' q) (ZZ.mpr (by rw[r];calc I.ok.above));nofun
 refine{λb o q n d _=>?_,λb o q n i _=>?_,λb o q n _=>?_,λb o q _=>?_,λb xs q=>u.fw b xs (B.fw b xs q),λb o v q=>u.fe b o v (B.fe b o v q),λb ps q=>?_};have a:=B.keep b o q n d (by simp);have c:=u.keep b o a (B.free b o q n (by simp)) (g b o q d) (by simp);calc(m b o c (nx b o a)).1 (g b o q d);let(a3,a):=B.slot b o q n i (by simp);let(j,c):=u.any a (B.free b o q n (by simp)) (by simp);calc(m b _ c (nx b _ a)).2;let(e,a):=B.there b o q (by simp);calc u.free b e a (B.free b o q n (by simp)) (by simp);let(e,a):=B.there b o q (by simp);let(k,c):=u.there b e a (by simp);let(_,a3,l):=m b k c (nx b e a);calc{_,l};let(cA,a):=B.fx b ps q;let(dc,c):=u.fx b _ a;exact{cA++dc,by nofun}
def Cw(I:Inv X pins aa H s)(a:X.ex=[])(h:s.heap.get? b=none):X.s_0.heap.get? b=none:=by
 cases q:X.s_0.heap.get? b with|none=>rfl|some o=>let(d,c):=I.base.there b o q (by nofun);rw[h]at c;cases c
def LR(u:cK (cE X.stack) [] H aj s.heap s'.heap){b:Addr}(h:s'.heap.objs.size<=b):s.heap.get? b=none:=by
 cases q:s.heap.get? b with|none=>rfl|some o=>let(c,a):=u.there b o q (by simp);calc absurd (W' a) (ZZ.mpr h)
end
def tX{K:PySem.W.Frag}:
  Out (ep (eQ P w C) P w K mg base N qual a f g A outer s H E) C E:=by
 intro pins aa H1 s1 ai n e ao ex I u aS h o j d p;refine leave (I.ok.frames) (Cu I u) rfl j λh' T q k l=>?_;have i:=LQ I rfl u l λb m=>(d b m).1;have c:e∈ex:=by grind<;>simp
 calc{e,ao,T,ai,rfl,h.trans I.os,o,i,Cv I u aS l λb m=>(d b m).2,q,Cw I rfl (d e c).1,Cw I rfl (LR u k),(d e c).2,aS.fresh k,p}
section
variable {M:Model}{A:Around}{E:Value->Shared->Prop}{s:Shared}{env:Env}
variable {nm q:Str}{C N:Addr}{bs bm:List Value}{hdct:Bool}{sn:List Str}{sub:List Value}{ab:Bool}{col:Option Bool}{dd:Option Addr}{k0 k1 k2 k3 k5:Option Value}{newId:String}
def LS(c:bm.contains (.type "BaseException")=true)(aI:A.handled=none)
  (h:wpAny M A x (λv s1=>∃e t ao,v=.ref e/\s1.heap.get? C=some (excClassObj nm q C N bs bm hdct sn sub ab col dd k0 k1 k2 k3 k5 newId)/\
   s1.heap.get? e=some {cls:=.ref C,dict:=some ao,data:=.fields #[.ref t,.none,.none,.none,.bool false,.none]}/\E (.ref e) s1) E s):wpAny M A (raiseStmt env (some x) none) Q E s:=by
 have a:(Value.ref C::bm).contains (.type "BaseException")=true:=by nofun
 refine wpAny_bind (Yi h (λv s1 ae=>?_) λ_ _ z=>z);let(e,t,ao,rfl,b,f,i):=ae;repeat (first|with_reducible refine wpAny_loadPart_at f ?_|with_reducible refine wpAny_loadPart_at b ?_|(with_reducible refine wpAny_isSubtype_exc b ?_;rw[a])|wp_step)
 calc wpAny_raiseNew_none aI i
end
def LU(x:cX P w H h a o):∃u,h.get? a=some u:=by
 cases o with|lst xs=>let(_,_,_,_,e):=x;calc{_,e}|tup xs=>let(_,_,_,o,e,_):=x;calc{_,e}|b7 kvs=>let(_,_,_,_,o,_,_,e,_):=x;calc{_,e}|d6 kvs=>let(_,_,_,_,o,_,_,e,_):=x;calc{_,e}|set S n=>let(o,_,_,_,e,_):=x;calc{_,e}|ins C ao fs=>let(_,_,_,e,_):=x;calc{_,e}|own y=>calc x|g8 fs=>let(_,z,_):=x;let(_,_,_,e,_):=z;calc{_,e}|tj lo af=>let(_,_,_,e):=x;calc{_,e}|e1 b u=>let(e,_):=x;calc{_,e}|lz ps=>calc{_,(show h.get? a=some _ from x)}|met f y=>calc{_,(show h.get? a=some _ from x)}|ext c=>let(_,e,_):=x;calc e
def none_of(aS:cu P w H h)(e:h.get? a=none):H a=none:=by
 cases q:H a with|none=>rfl|some o=>let(u,z):=LU (aS a o q);rw[e]at z;cases z
def LV(k:∀b u,h.get? b=some u->h'.get? b=some u)(d:h.get? a=none)(c:H a=none):cK fs ex H (upd H a o) h h' where
 keep:=λb u q _ _ _=>k b u q;slot:=λb u q _ _ _=>{u.slots,k b u q};free:=λb u q n _=>by rwa[aK λz=>by erw[z,d]at q;cases q]
 there:=λb u q _=>{u,k b u q};fw:=λb xs q=>by rwa[aK (cT q c)]
 fe:=λb u xs q=>by rwa[aK (cT q c)]
 fx:=λb ps q=>{#[],by rw[aK (cT q c),q];simp}
def Cx(x:cu P w H h)(k:∀b u,h.get? b=some u->h'.get? b=some u)(f:H a=none)(d:cX P w (upd H a o) h' a o):cu P w (upd H a o) h':=λb u e=>by by_cases g:b=a;subst g;rw[aO]at e;cases e;calc d;rw[aK g]at e;refine(x b u e).ij (λc v _ q=>k c v q) (λc q=>?_) λc xs q=>?_;rwa[aK (cT q f)];rwa[aK (cT q f)]
def Cy(C:Addr)(E:b8)(t:ci):cy:=λ_ aa H=>t aa H λvs H1=>∃x y,vs=[x,y]/\∀ao,H1 ao=none->E (.ref C) (some ao) (upd H1 ao (.g8 [("code",x),("place",y)]))
def LW(c:RelV x a)(d:RelV y b)f:eb (([("code",x),("place",y)]:List (Str×V)).lookup f) (xF a b f):=by unfold xF;by_cases ae:f= "code";subst ae;calc c;by_cases ag:f= "place";subst ag;calc d;rw[WM ag,WM ae];have e:=XP.mpr ae;have g:=XP.mpr ag;simp[List.lookup,e,g];trivial
def gr{st:Stmt}{p cz pos:Pos}(o:Out X C E)(A:rz X.K C jC fd st)(hc:X.calm=true)(bF:b2 (k+1) X.A)(dW:d2 X "Fault")(hm:X.mg "Fault"=some (.ref C))
  (df:dF X [j,i] t) (B:starEach [j,i] X.env=(false,eval j X.env)::starEach [i] X.env:=by rfl) (G:(backTo cz (starEach [i] X.env)).any (·.1)=false:=by rfl):
  fz X (.Raise (some (.Call (.Name "Fault" p) [j,i] [] cz)) none pos) (Cy C E t):=by
 intro pins s aa H D I h;let(nm,q,N,bs,sn,sub,ab,col,dd,k0,k1,k2,k3,k5,J,K,xG,ni,ro,xH):=A.cls;let(of,lf,L):=A.LH;erw[arm_exec_Raise];refine wpAny_bind (aad (LS (C:=C) (N:=N) (nm:=nm) (q:=q) (bs:=bs) (hdct:=true) (sn:=sn) (sub:=sub) (ab:=ab) (col:=col) (dd:=dd) (k0:=k0) (k1:=k1) (k2:=k2) (k3:=k3) (k5:=k5) (newId:= "ValueError.__new__") aac.hasBase (I.ok.hd hc)
  (wpAny_bind (Yi (Yw (lC I dW hm ?_)) (λv s1 ae=>wpAny_bind (aad (wpAny_pure ae))) λ_ _ z=>z))))
 refine YK (h₀:=X.base) I.ok.mod.kc A.cL (aW (df cz pins s aa H _ I h) λus s1⟨vs,H1,aA,r,x,y,M,fp⟩=>{aA.kIn,?_}) B G;subst M;cases r with
 | @cons _ vW _ _ r1 lB=>
 cases lB with
 | @cons _ oc _ _ r2 O=>
 cases O;have f:=aA.kIn;let(l,g,d,tk,os):=s1;have V:=abn (aaI f K);refine wpAny_call_exc_init aac (f _ _ J) V (LG f V xG) (f _ _ lf) L (λag e c=>?_) (by show 2<=sizeLine;rw[WJ];nofun);let(g9,W,UY,bW):=c.there;have m:∀a u,X.K.lookup a=some u->a≠e:=λa u z P=>by have Y:=f a u z;erw[P,c.new]at Y;cases Y
 refine LK (s:=⟨ag,g,d,tk,os⟩) A (bF.make C _ []).depth (f.keeps c.keeps) (aA.nolimit.keeps c.keeps) W rfl rfl {_,rfl} m λQ ao R Z a2 gg s8=>{rfl,e,g9,ao,rfl,?_,Z,?_};calc s8 C _ (m _ _ J) (c.keeps _ _ (f _ _ J));have cL:∀b u,l.get? b=some u->Q.get? b=some u:=λb u z=>s8 b u (λP=>by rw[P,c.new]at z;cases z) (c.keeps b u z);have n:l.get? e=none:=c.new;have w:l.get? ao=none:=by
  cases z:l.get? ao with
  |none=>rfl
  |some u=>exact absurd (W' (c.keeps _ _ z)) (ZZ.mpr a2)
 have S:H1 ao=none:=none_of aA.aS w;have U:ao≠e:=λz=>absurd (W' W) (ZZ.mpr (by nofun));refine o pins aa H1 ⟨l,g,d,tk,os⟩ (upd H1 ao (.g8 [("code",x),("place",y)])) ⟨Q,g,d,R,os⟩ e ao [e] aA (LV cL w S) (Cx aA.aS cL S ({_,gg,LW r1 r2})) rfl aA.bare (.inl {{_,_,Z,rfl,rfl,rfl,rfl},rfl}) (λb bD=>?_) (fp ao S);rw[WQ.mp bD];exact{n,by rw[aK U.symm];calc (none_of aA.aS n)}
def kE(C a ao:Addr):bH:=.ext λh=>∃b vs,h.get? a=some b/\b.cls=.ref C/\b.dict=some ao/\b.data=.fields vs
def LY(a:hV C e ao T fl h):cX P w H h e (kE C e ao):=by let(c,vs,o,p,d,hc,b,hd,ae,ne,q,f,r):=a;calc{⟨c,vs,d,hc,b,hd⟩,⟨c,d⟩,λae ag⟨g,i,j,l,m,n⟩k=>{g,i,k _ j,l,m,n}}
section
variable {prog:Program}{w:World}{K:PySem.W.Frag}{A:Around}{E:Value->Shared->Prop}{x C N:Addr}{Cz:Obj}{cD:Option Obj}{name nm q:Str}{bs:List Value}{hdct:Bool}{sn:List Str}{sub:List Value}{ab:Bool}{col:Option Bool}{dd:Option Addr}{k0 k1 k2 k3 k5:Option Value}{newId:String}
def LZ(lk:s.heap.get? C=some (excClassObj nm q C N bs nh hdct sn sub ab col dd k0 k1 k2 k3 k5 newId))(I:PySem.W.InstAt s.heap x Cz C cD)(z:Q () s):
  wpAny M A (checkBuiltinCall kD {[.ref x,u],[]}) Q E s:=by
 let(h,g,d,t,os):=s;have a:builtinKind kD=some .slot:=by decide+kernel
 have b:splitId kD=some ("BaseException","__getattribute__"):=by decide+kernel
 have c:(Value.ref C::nh).contains (.type "BaseException")=true:=rfl;have f:=F.args_bexc_ga (.ref x) u;have e:=I.at_;have hc:=I.cls;simp[checkBuiltinCall,b];refine wpAny_bind ?_;unfold isInstance;repeat (first|(with_reducible refine wpAny_loadPart_at e ?_;erw[hc])|(with_reducible refine wpAny_isSubtype_exc lk ?_;rw[c])|wp_step)
 calc z
def L0(X:K.In s.heap)(I:PySem.W.InstAt s.heap x Cz C cD)(lk:s.heap.get? C=some (excClassObj nm q C N bs nh hdct sn sub ab col dd k0 k1 k2 k3 k5 newId))
  (e:findIn K (.ref C) "__getattribute__"=some (some (.builtin kD))) (f:findIn K (.ref C) "__getattr__"=some none) (i:PySem.W.findObj K C cD name=some (.value v)) (aI:handedIn v=true) (z:Q v {s with toks:=s.toks+1}):
  wpAny (model prog w) A (getAttr (.ref x) name a) Q E s:=by
 have c:=I.type (M:=model prog w);have j:=aaa (M:=model prog w) X e;have b:=aaa (M:=model prog w) X f;have k:=PySem.W.looks_find (M:=model prog w) X I i;have l:(Value.builtin kD==Value.builtin "object.__getattribute__")=false:=by rfl
 have m:(onTheHeap (Value.ref C)&&Value.builtin kD==Value.builtin "object.__getattribute__")=false:=by rfl
 have n:(a&&onTheHeap (Value.builtin kD))=false:=by cases a<;>rfl
 have o:=F.excAttr_ValueError.ga.bind (.ref x);refine wpAny_bind (wpAny_mkText ?_);refine aaU (wpAny_bind (c.at (wpAny_bind (j.at ?_))));repeat (any_goals (first|assumption|with_reducible refine b.at ?_|wp_step))
 refine codeAny_call_builtin F.excAttr_ValueError.ga.plain F.entry_bexc_ga (LZ lk I ?_);repeat (any_goals (first|assumption|with_reducible refine c.at ?_|with_reducible refine k.at ?_|wp_step))
 change wpAny _ _ (handedOut v) Q E _;rw[PySem.W.handedOut_of aI];calc wpAny_pure z
end
def L1(C:Addr)(aP:TE)(f:Str):TE:=λaa H Q=>aP aa H λx H1=>∃a ao fs v,x=.ref a/\H1 a=some (kE C a ao)/\H1 ao=some (.g8 fs)/\fs.lookup f=some v/\Q v H1
def CA(d:aH X e aP)(g:Cm X.K C)(i:findIn X.K (.ref C) f=some none)
  (j:attributeBase e f X.env (eval e X.env)=eval e X.env):aH X (.Attribute e f pos) (L1 C aP f):=by
 refine λpins s aa H Q I h=>A' j (aW (d pins s aa H _ I h) λu s1 zz=>?_);let(x,H1,aA,k,a,ao,fs,v,ex,m,n,l,q):=zz;subst ex;obtain rfl:u=Value.ref a:=k;let(z0,_):=(show cX X.prog X.w H1 s1.heap a (kE C a ao)from aA.aS a _ m);let(p,vs,r,t,w,y):=z0;let(cC,b,A):=(show cX X.prog X.w H1 s1.heap ao (.g8 fs)from aA.aS ao _ n);let(cD,B,hl):=A4 b;let(z,hz,c):=eb.some_of (v:=v) (o:=cC f) (by rw[<-l];calc A f);let(z1,D,E,F):=g;let(nm,G,N,bs,sn,sub,ab,col,dd,k0,k1,k2,k3,k5,lk):=z1;calc L0 aA.kIn ({r,t,by unfold notCls;rw[y],by rwa[w]}) (aA.kIn _ _ lk) D E (abJ F i rfl (by rw[hl,hz])) (A7 c) {v,H1,aA.tok _,c,q}
section
variable {X:aR}{pins:List (Addr×Obj)}{aa:L2.St}{H aj:am}{s s':Shared}{f3:Heap}{ex:List Addr}
def L3(u:cK (cE X.stack) [] H aj s.heap s'.heap)(m:Moved (cE X.stack) ex s'.heap f3)(f:∀b∈ex,s.heap.get? b=none)(g:s.heap.get? e=none)(a:aj e=none):
  cK (cE X.stack) [] H (upd aj e o) s.heap f3:=by
 have nx:∀b o,s.heap.get? b=some o->b∉ex:=λb o q z=>by rw[f b z]at q;cases q
 have ne:∀b o,s.heap.get? b=some o->b≠e:=λb o q z=>by rw[z,g]at q;cases q
 refine{λb o q n d _=>?_,λb o q n j _=>?_,λb o q n _=>?_,λb o q _=>?_,λb xs q=>?_,λb o v q=>?_,λb ps q=>?_};calc(m b o (u.keep b o q n d (by simp)) (nx b o q)).1 d;let(a3,c):=u.any q n (by simp);calc(m b _ c (nx b _ q)).2;rw[aK (ne b o q)];calc u.free b o q n (by simp);let(h,c):=u.there b o q (by simp);let(_,a3,i):=m b h c (nx b o q);calc{_,i};have z:=u.fw b xs q;rwa[aK (cT z a)];have z:=u.fe b o v q;rwa[aK (cT z a)];let(cA,z):=u.fx b ps q;exact{cA,by rwa[aK (cT z a)]}
def gone(I:Inv X pins aa H s)(F:X.N.Nodup)(af:X.N[i]? =some x)(ak:X.env.scope.names.lookup x=some .local)
  (k:∀s',Inv X pins (aa.set i none) H s'->Q () s'):wpAny M A (do bindName X.env x .none;unbindBehindTheSuite X.env x pos) Q E s:=by
 let(m,w,hl):=id I.loc;have a:(X.env.scope.kind== .class||(X.env.scope.kind== .module&&X.env.locals !=X.env.globals))=false:=by rw[I.ok.kind];rfl
 have f:i<aa.length:=by rw[I.len];exact(WH.mp af).1
 refine wpAny_nameGoes_keeps ak w a λh' v l hs=>?_;have lo:∀b o,X.s_0.heap.get? b=some o->h'.get? b=s.heap.get? b:=λb o q=>hs.2 b (Xz (Xq (W' q) I.ok.above));refine k _ {I.ok,I.os,I.bare,{λb o q n t g=>?_,λb o q n t g=>?_,I.base.free,λb o q g=>?_,I.base.fw,I.base.fe,I.base.fx},{_,l,λj y J B h K=>?_},λy c e=>?_,I.free,I.fy,λp L=>?_,λb N q=>?_,?_};calc(lo b o q).trans (I.base.keep b o q n t g);let(a3,r):=I.base.slot b o q n t g;calc{a3,(lo b o q).trans r};let(dq,r):=I.base.there b o q g;calc{dq,(lo b o q).trans r};have C:j≠i:=λz=>by rw[z,Zi f]at h;cases h
 rw[X6 (XE C)]at h;let(O,P,q):=hl j y J B h K;refine{O,P,?_};rcases q with⟨u,e⟩|⟨u,c,e,z⟩
 refine .inl {u,?_};have R:y≠x:=λS=>C (tm F B (S▸af));simp[R,e];calc .inr {u,c,e,z.sameBut hs (I.cne y c e)};let(D,z):=I.cell y c e;calc{D,z.sameBut hs (I.cne y c e)};let(e,n,ne,T,d):=I.pin p L;calc{(hs.2 p.1 ne).trans e,n,ne,T,d};refine(I.aS b N q).ij (λc D hc r=>(hs.2 c ?_).trans r) (λ_ r=>r) λ_ _ r=>r;rintro rfl;rcases hc with rfl|hc
 rw[I.free]at q;cases q;rw[I.free]at hc;cases hc;rw[aar];calc I.len
end
abbrev caught(X:aR)(e:Addr):aR:= {X with A:=X.A.mark (some (.ref e)),calm:=false,xe:=λ_ _=>False}
abbrev i'(X:aR)(b:Value->Shared->Prop)(a:List (Addr×Obj)):aR:= {X with xe:=b,pn:=a}
def blank(X:aR):L2.St:=List.replicate X.N.length none
def L4(X:aR)(C:Addr)(i:Nat)(bi:b8->cy)(b:cy):cy:=λD aa H=>∃a,bi a D aa H/\
 ∀e ao aj,a (.ref C) (some ao) aj->aj e=none->b {nx:=λσ' ai=>D.nx (σ'.set i none) ai,rt:=D.rt,bk:=λσ' ai=>D.bk (σ'.set i none) ai,ct:=λσ' ai=>D.ct (σ'.set i none) ai} ((blank X).set i (some (.ref e))) (upd aj e (kE C e ao))
def L5{st:Stmt}(L6:rz X.K C jC fd st)(hex:X.ex=[])(L:X.stack=X.env::X.outer/\X.env.frame=some X.env.locals)
  (e2:X.N.Nodup) (af:X.N[i]? =some n) (ak:X.env.scope.names.lookup n=some .local) (dW:d2 X "Fault") (hm:X.mg "Fault"=some (.ref C))
  (bD:∀(kC:b8)(k:Value->Shared->Prop)(CB:List (Addr×Obj)),Out (i' X k CB) C kC->eo (i' X k CB) body (bi kC)) (hs:∀e,eo (caught X e) (kF::c) gs):
  fz X (.Try body [.ExceptHandler (some (.Name "Fault" np)) (some n) (kF::c) A] [] [] pos) (L4 X C i bi gs):=by
 intro pins s aa H D I h;let(kC,Q,M):=h;let(nm,q,N,bs,sn,sub,ab,col,dd,k0,k1,k2,k3,k5,L7,okN,xG,ni,ro,xH):=L6.cls;generalize tY:(λev s1=>wpAny (model X.prog X.w) X.A (noteFrame ev X.env) (λ_ w=>wpAny (model X.prog X.w) X.A (setFlight ev none) (λ_ B=>wpAny (model X.prog X.w) X.A (handleBy ev X.env [.ExceptHandler (some (.Name "Fault" np)) (some n) (kF::c) A]) (kd X pins D) X.xe B) X.xe w) X.xe s1)=k;have L8:(i' X k (X.pn++pins)).Ok:=⟨I.ok.mod,I.ok.kind,I.ok.glob,I.ok.blt,I.ok.above,I.ok.inj,I.ok.has,I.ok.mW,I.ok.hd,I.ok.frames,I.ok.oJ,I.ok.oK,I.ok.bs,I.ok.hI,I.ok.mX,I.ok.lA,I.ok.funs,I.ok.iX⟩;have L9:Inv (i' X k (X.pn++pins)) [] aa H s:={L8,I.os,I.bare,I.base,I.loc,I.cell,I.free,I.fy,λp a8=>I.pin p (by nofun),I.aS,I.len};have back:∀{pn E H1 s1},Inv (i' X k (X.pn++pins)) pn E H1 s1->Inv X pins E H1 s1:=λ{pn E H1 s1}J=>{I.ok,J.os,J.bare,J.base,J.loc,J.cell,J.free,J.fy,λp a8=>J.pin p (Xa _ a8),J.aS,J.len};have out:Out (i' X k (X.pn++pins)) C kC:=by
  intro G E H1 s1 ai w e ao ex J u aS L_ R nj Y L';show k (.ref e) w;rw[<-tY];have O:e∈ex:=by rcases nj with⟨_,rfl⟩|⟨T0,_,rfl⟩<;>simp
  have lN:(i' X k (X.pn++pins)).stack=X.env::X.outer:=L.1;have CC:X.A.frames=some (X.env::X.outer):=by rw[<-L.1];exact I.ok.frames
  have xL:=Cu J u;rw[lN]at xL;have go:∀bP T,hV C e ao T (rawInt X.env.locals) bP->w.heap.objs.size<=T->Moved (cE (X.env::X.outer)) ex w.heap bP->
    wpAny (model X.prog X.w) X.A (setFlight (.ref e) none) (λ_ B=>wpAny (model X.prog X.w) X.A (handleBy (.ref e) X.env [.ExceptHandler (some (.Name "Fault" np)) (some n) (kF::c) A]) (kd X pins D) X.xe B) X.xe {w with heap:=bP}:=by
   intro bP T a1 a2 gg;have K:∀g,hV C e ao T .none g->Moved (cE (X.env::X.outer)) ex w.heap g->Inv (i' X k (X.pn++pins)) G E (upd ai e (kE C e ao)) {w with heap:=g}:=by intro g cp b4;rw[<-lN]at b4;have oc:=L3 (X:=i' X k (X.pn++pins)) (o:=kE C e ao) u b4 (λb m=>(Y b m).1) (Y e O).1 (Y e O).2;have Ma:cu X.prog X.w ai g:=Cv (X:=i' X k (X.pn++pins)) J u aS b4 λb m=>(Y b m).2;have Mb:=Cx (a:=e) (o:=kE C e ao) Ma (λ_ _ z=>z) (Y e O).2 (LY cp);exact J.call' (s':= {w with heap:=g}) L_ oc Mb R (λb z=>absurd z (by simp))
   have CD:∀g Z,Moved (cE (X.env::X.outer)) ex w.heap g->Moved [] [T] g Z->Moved (cE (X.env::X.outer)) ex w.heap Z:=by
    intro g Z hG g7 b o z nb;let(cB,a3,bX):=hG b o z nb;have jE:b∉ [T]:=λm=>by rw[WQ.mp m]at z;exact absurd (W' z) (ZZ.mpr a2)
    exact{λq3=>(g7 b o (cB q3) jE).1 (by simp),a3,(g7 b _ bX jE).1 (by simp)}
   have P:∀{l S B},Inv (i' X k (X.pn++pins)) G l S B->Inv (caught X e) pins (blank X) S B:=λ{l S B}t=>by
    have W:=t.weak (σ':=blank X) (by erw[t.len];calc abm ..) λj v z=>by unfold blank at z;rw[aaV]at z;split at z<;>cases z
    exact{{I.ok.mod,I.ok.kind,I.ok.glob,I.ok.blt,I.ok.above,I.ok.inj,I.ok.has,I.ok.mW,(λz=>nomatch z),I.ok.frames,I.ok.oJ,I.ok.oK,I.ok.bs,I.ok.hI,I.ok.mX,I.ok.lA,I.ok.funs,I.ok.iX},W.os,W.bare,W.base,W.loc,W.cell,W.free,W.fy,
     λp a8=>W.pin p (Xa _ a8),W.aS,W.len}
   have d:∀{l S B},Inv (caught X e) pins l S B->Inv X pins l S B:=λ{l S B}t=>⟨I.ok,t.os,t.bare,t.base,t.loc,t.cell,t.free,t.fy,t.pin,t.aS,t.len⟩;refine unmark a1 λg cp b4=>?_;have CE:=CD bP g gg b4;have ki:=P (K g cp CE);refine wpAny_handleBy_cons (codeAny_handlers_test (lC (X:=caught X e) ki dW hm ?_)) (by intro z;cases z);let(UZ,vs,U0,U1,he,hc,_):=id cp;let(U2,g2,bX,Cs,Mc):=w;refine wpAny_excMatches_sub_self (ki.kIn _ _ L7) he hc aac.hasBase (codeAny_handlers_suite_as ?_);refine unmark (s:=⟨g,g2,bX,Cs,Mc⟩) cp λZ hG g7=>?_;have wX:=P (K Z hG (CD g Z CE g7));refine tn (X:=caught X e) (v:=.ref e) wX e2 af (Or.inl ak) rfl (λdG o2=>?_) (Or.inr ak);refine Yi (hs e pins dG _ _ _ o2 (M e ao ai L' (Y e O).2)) (λf iq y=>?_) λ_ _ z=>z.elim;cases f with
   |next=>let(σ',aj,U,z):=y;calc gone (d U) e2 af ak λgQ V=>{_,aj,V,z}
   |ret v=>let(x,σ',aj,U,r,z):=y;calc gone (d U) e2 af ak λgQ V=>{x,_,aj,V,r,z}
   |brk=>let(σ',aj,U,z):=y;calc gone (d U) e2 af ak λgQ V=>{_,aj,V,z}
   |cont=>let(σ',aj,U,z):=y;exact gone (d U) e2 af ak λgQ V=>{_,aj,V,z}
  rcases nj with⟨Md,rfl⟩|⟨T0,Me,rfl⟩
  calc Cj CC xL L.2 Md go;exact Ck CC xL L.2 Me go
 refine wpAny_Try_except (Yi (bD kC k _ out [] s aa H D L9 Q) (λf s1 y=>?_) λev s1 y=>?_);cases f with
 |next=>let(σ',aj,J,z):=y;calc Zq {σ',aj,back J,z}
 |ret v=>let(x,σ',aj,J,r,z):=y;calc{x,σ',aj,back J,r,z}
 |brk=>let(σ',aj,J,z):=y;calc{σ',aj,back J,z}
 |cont=>let(σ',aj,J,z):=y;exact{σ',aj,back J,z}
 grind
section
variable {P:Program}{w:World}{K:PySem.W.Frag}{mg:Str->Option Value}{base:Heap}
def CF{st:Stmt}(F:ir K x qual st f fd)(S:fA N ps (bL st))(len:∀vs H Q E,sp vs H Q E->vs.length=ps.length)
  (a:∀(a_:Value)(A:Around)(outer:List Env)(s:Shared)(H:am)(vs:List V)(Q:aE)(E:b8),b2 k (A.deeper (envOfC qual (bL st) s.heap.objs.size f a_))->sp vs H Q E->
   ∃t,eo (ep (eQ P w C) P w K mg base N qual (bL st) f a_ A outer s H E) (eO st) t/\t {nx:=λ_ aj=>Q .bb aj,rt:=Q} (start N vs) H):dU P w K mg base (eQ P w C) (k+1) f fd ps sp:=by
 let(ff,cD,cb,doc,pm,an,a_,ct,fB,rfl,lk,b):=F.ex;calc Bf lk b S len λA outer s H vs Q E d c=>a a_ A outer s H vs Q E d c
def CG:
  PassesOwn (model P w) (ep (eQ P w C) P w K mg base N qual a f b A outer s H E).A (ep (eQ P w C) P w K mg base N qual a f b A outer s H E).env (ep (eQ P w C) P w K mg base N qual a f b A outer s H E).xe:=PassesOwn.leaving
end
end kC
namespace mf
open PySem PySem.Spec PyProof.Rows L2 kC
def top(i:Nat):Stmt:=PySem.Challenge.pw_roundchains_s01_answers.main.body.getD i (.Pass {0,0,0,0})
def a7(K:PySem.W.Frag)(mg:Str->Option Value)(x:Str)(ps:List Str)(st:Stmt):Prop:=
 ∃f fd,ir K x x st f fd/\mg x=some (.ref f)/\Binds K fd ps []
def hi(P:Program)(w:World)(K:PySem.W.Frag)(mg:Str->Option Value)(base:Heap)(CX:eD)(k:Nat)(x:Str)(ps:List Str)(sp:bE):Prop:=
 ∃f fd,dU P w K mg base CX k f fd ps sp/\mg x=some (.ref f)/\keepIn K (.ref f)=true/\Binds K fd ps []
def c6(mg:Str->Option Value)(x:Str)(v:V):Prop:=∃u,mg x=some u/\RelV v u
def GT(K:PySem.W.Frag)(mg:Str->Option Value)(x:Str)(a:Addr)(xs:List V):Prop:=mg x=some (.ref a)/\∀H,bJ K H a xs
section
variable {X:aR}{x:Str}{p pos:Pos}
def Mf(c:c6 X.mg x v)(a:d2 X x)(hd:(x==("__debug__":Str))=false:=by decide):aH X (.Name x p) (iY v):=by let(u,h,r):=c;calc wK a h r hd
def ja(c:GT X.K X.mg x a xs)(b:d2 X x)(hd:(x==("__debug__":Str))=false:=by decide):aH X (.Name x p) (iY (.ref a)):=wK b c.1 rfl hd
def CH(c:hi X.prog X.w X.K X.mg X.base CX k x ps sp)(b:b2 k X.A)(d:d2 X x)(g:Passes CX X E)(h:dF X (e::ay) t)
  (hd:(x==("__debug__":Str))=false:=by decide) (i:starEach (e::ay) X.env=(false,eval e X.env)::starEach ay X.env:=by rfl) (a:(backTo pos (starEach ay X.env)).any (·.1)=false:=by rfl):
  aH X (.Call (.Name x p) (e::ay) [] pos) (re sp [] E t):=by
 let(f,fd,F,j,ak,l):=c;calc JA F b d j ak l .nil g h hd i a
end
def CI{base:Heap}{K:PySem.W.Frag}{st:Stmt}(D:a7 K mg x ps st)(S:fA N ps (bL st))(len:∀vs H Q E,sp vs H Q E->vs.length=ps.length)
  (a:∀(f:Addr)(a_:Value)(A:Around)(outer:List Env)(s:Shared)(H:am)(vs:List V)(Q:aE)(E:b8),b2 k (A.deeper (envOfC x (bL st) s.heap.objs.size f a_))->sp vs H Q E->
   ∃t,eo (ep dB P w K mg base N x (bL st) f a_ A outer s H E).hJ (eO st) t/\t {nx:=λ_ aj=>Q .bb aj,rt:=Q} (start N vs) H):hi P w K mg base dB (k+1) x ps sp:=by
 let(f,fd,F,b,c):=D;calc{f,fd,F.ok S len λa_ A outer s H vs Q E d h=>a f a_ A outer s H vs Q E d h,b,F.cL,c}
def Mg{base:Heap}{K:PySem.W.Frag}{st:Stmt}(D:a7 K mg x ps st)(S:fA N ps (bL st))(len:∀vs H Q E,sp vs H Q E->vs.length=ps.length)
  (a:∀(f:Addr)(a_:Value)(A:Around)(outer:List Env)(s:Shared)(H:am)(vs:List V)(Q:aE)(E:b8),b2 k (A.deeper (envOfC x (bL st) s.heap.objs.size f a_))->sp vs H Q E->
   ∃t,eo (ep (eQ P w C) P w K mg base N x (bL st) f a_ A outer s H E) (eO st) t/\t {nx:=λ_ aj=>Q .bb aj,rt:=Q} (start N vs) H):hi P w K mg base (eQ P w C) (k+1) x ps sp:=by
 let(f,fd,F,b,c):=D;calc{f,fd,CF F S len λa_ A outer s H vs Q E d h=>a f a_ A outer s H vs Q E d h,b,F.cL,c}
section
section
variable {X:aR}
def Mh:cI X (binaryOp .Mult) (q9 IntMulOk λi j=>.int (i*j)):=w1 λ_ _ _ _ _ _ _ hc q=>mul_int q hc
def Mi(_ j:Int):Prop:=0<j/\j.natAbs.log2<9000
def jb:cI X (binaryOp .FloorDiv) (q9 Mi λi j=>.int (i/j)):=w1 λi j _ _ _ _ _ hc q=>by have e:=Int.fdiv_eq_ediv_of_nonneg i (Zp hc.1);calc floordiv_int (Int.ne_of_gt hc.1) (by nofun) (.inl (PyProof.noPylong_of_log2 hc.2))
def CJ:V->am->aE->Prop:=λx H Q=>(∃z,x=.str z/\z.length<=sizeLine/\Q (.str z) H)\/∃i,x=.int i/\i.natAbs.log2<1920/\Q (.str (toString i)) H
def CK(te:TE):TE:=λaa H Q=>te aa H λx H1=>CJ x H1 Q
def lO(b:aH X e te):aH X (.FormattedValue e (-1) none pos) (CK te):=by
 refine λpins s aa H Q I h=>wpAny_FormattedValue_plain (aW (b pins s aa H _ I h) λu s1 zz=>?_);let(x,H1,aA,a,c):=zz;rcases c with⟨z,rfl,hz,q⟩|⟨i,rfl,hz,q⟩;let(t,rfl):=a;calc wpAny_formatField_str {.str z,H1,aA,{_,rfl},q} {.str z,H1,aA.tok _,{_,rfl},q} hz;let(t,rfl):=a;calc wpAny_formatField_int hz {.str (toString i),H1,aA.tok _,{_,rfl},q}
def tZ:List TE->L2.St->am->(Str->am->Prop)->Str->Prop|[],_,H,Q,acc=>Q acc H|t::r,aa,H,Q,acc=>t aa H λx H1=>∃z,x=.str z/\(acc++z).length<=sizeLine/\tZ r aa H1 Q (acc++z)
inductive dX(X:aR):List Expr->List TE->Prop where
 |nil:dX X [] []
 |cons {e:Expr}{ay:List Expr}{t:TE}{gs:List TE} (h:aH X e t) (r:dX X ay gs):dX X (e::ay) (t::gs)
def Mj(p:dX X ay a):∀{pins:List (Addr×Obj)}{s:Shared}{aa:L2.St}{H:am}{acc:Str}{Q:Str->am->Prop}{R:Str->Shared->Prop},Inv X pins aa H s->tZ a aa H Q acc->
  (∀z s' aj,Inv X pins aa aj s'->Q z aj->R z s')->Joins (model X.prog X.w) X.A X.xe (evalEach ay X.env) acc R s:=by
 induction p with|nil=>intro pins s aa H acc Q R I h k;calc k acc s H I h|cons h r b=>intro pins s aa H acc Q R I c k;refine aW (h pins s aa H _ I c) λu s1 zz=>?_;let(x,H1,aA,d,z,ex,hz,q):=zz;subst ex;let(t,rfl):=d;calc{z,t,rfl,hz,b aA q k}
def CL(a:List TE):TE:=λaa H Q=>tZ a aa H (λz H1=>z.length<=sizeLine/\Q (.str z) H1) Str.empty
def o_(p:dX X (a::b::ay) c):aH X (.JoinedStr (a::b::ay) pos) (CL c):=λpins s aa H Q I h=>wpAny_JoinedStr (Mj p I h λz s' aj d q=>{q.1,.str z,aj,d.tok _,{_,rfl},q.2})
end
namespace Ext
open AutoSeq1
def Mk(l:Addr)items(n:Nat)b(a:Array Value)i(dd:Option Addr)a3(j:¬(!items.isEmpty&&Builtin.List.listTooLong (items.size+a.size))=true)(c:items.size<=sizeLine)(e:items.size+a.size<=sizeLine+1):
  Meets (Builtin.«list.extend» {[.ref l,.ref b],[]}) (λ_ R s=>s.heap.get? l=some {cls:=.type "list",dict:=none,data:=.seq items n,slots:= #[]}/\s.heap.get? b=some {cls:=.type "tuple",dict:=dd,data:=.seq a i,slots:=a3}/\
   R (.ok (.ret Value.none)) {s with heap:=s.heap.update l (Obj.mapSeq λx=>x++a),toks:=s.toks}):=
 .of_wp λprog w A R s h=>by
  let(hl,k,h):=h;have t:=AutoSeq1.sub_list_tuple
  wp_walk using(wpAny_updateSeq hl rfl),wpAny_loadPart' hl,wpAny_loadPart' k
  calc{_,rfl,h}
end Ext
section
variable {X:aR}
def Ml(K:PySem.W.Frag):V->List V->am->aE->Prop:=λx vs H Q=>∃l b xs zs,x=.ref l/\vs=[.ref b]/\H l=some (.lst xs)/\bJ K H b zs/\xs.length+zs.length<=sizeLine/\Q .bb (upd H l (.lst (xs++zs)))
def Mm:tF X "list.extend" (Ml X.K):=by
 intro pins s aa H x vs v us Q I j k h;let(l,b,xs,zs,rfl,rfl,g,m,hz,q):=h;cases j;let(u,rfl,o):=k.one;cases o;let(z,its,n,r,hl,e):=I.lstM g;let(a,i,z0,y):=I.tuple m;let(p,t,d,w,f):=z0;let(ff,cD,A,fB):=p;subst d f;have B:=i.length;have hsz:its.toArray.size+a.toArray.size<=sizeLine:=by erw[W_,W_];nofun
 have c:¬(!its.toArray.isEmpty&&Builtin.List.listTooLong (its.toArray.size+a.toArray.size))=true:=by rw[w_ hsz,abC];exact W9
 refine aal aaG {_,e,rfl} F.entry_list_extend (F.args_list_extend_2 _ _) (Ext.Mk l its.toArray n b a.toArray w cD fB c (by nofun) (by lia)) {e,t,?_};refine{.bb,_,I.lset g e (by simp) (r.append i) ?_,rfl,q};rw[WI];omega
def nk(K:PySem.W.Frag)(mg:Str->Option Value)(x:Str)(a:Addr)(kvs:List (Int×V)):Prop:=
 mg x=some (.ref a)/\(a==sysModules)=false/\∃ay n,K.lookup a=some {.type "dict",none,.dict ay n,#[]}/\(∀e∈ay.toList,∃k t,e.key=.int k t/\e.hash=hashInt k)/\∀k,eb (kvs.lookup k) (findBy Value.isInt ay k)
def CM{K:PySem.W.Frag}(G:nk K mg x a kvs)(b:K.In h)prog w:∃f,h.MapOf (intKind prog w) a f/\∀k,eb (kvs.lookup k) (f k):=by let(_,_,ay,n,hl,ak,c):=G;refine{λk=>findBy Value.isInt ay k,{_,ay,n,b _ _ hl,⟨rfl,rfl,rfl⟩,rfl,λe d=>?_,λ_=>rfl},c};let(k,t,g,i):=ak e (abx.mpr d);exact{k,by rw[g];calc intKind_is prog w k t,i}
def xM(c:nk X.K X.mg x a kvs)(b:d2 X x)(hd:(x==("__debug__":Str))=false:=by decide):aH X (.Name x p) (iY (.ref a)):=wK b c.1 rfl hd
def xN(a:Addr)(kvs:List (Int×V)):dr:=λx y H Q=>∃i v,x=.ref a/\y=.int i/\kvs.lookup i=some v/\Q v H
def CN(c:nk X.K X.mg x a kvs):i6 X (xN a kvs):=by intro value b pins s aa H x y v u Q I e g q hs;let(i,z,rfl,rfl,hz,q):=q;obtain rfl:v=Value.ref a:=e;let(t,rfl):=(show∃t,u=Value.int i t from g);let(f,d,h):=CM c I.kIn X.prog X.w;let(l,j,k):=eb.some_of (v:=z) (o:=f i) (by grind);calc tail_any d.typeIs slot_dict_getitem.lookup (wpAny_getItem_of (intKind_is X.prog X.w i t) d j {z,H,I.tok _,k,q}) hs
def Mn(c:nk X.K X.mg x a kvs):cI X (compareOp .In) (λx y H Q=>∃i,x=.int i/\y=.ref a/\Q (.aG (kvs.lookup i).isSome) H):=by
 intro pins s aa H x y v u Q I b d q;let(i,rfl,rfl,q):=q;let(t,rfl):=(show∃t,v=Value.int i t from b);obtain rfl:u=Value.ref a:=d;let(f,g,h):=CM c I.kIn X.prog X.w;have e:(f i).isSome=(kvs.lookup i).isSome:=by have z:=h i;cases ae:kvs.lookup i<;>cases ag:f i<;>simp only[ae,ag]at z<;>first|rfl|exact z.elim
 exact wpAny_in_of (intKind_is X.prog X.w i t) c.2.1 g {.aG _,H,I.tok _,by rw[e];rfl,q}
end
end
def fi(h:H p=none):aw H (upd H p o):=λb u e=>by rwa[aK (cT e h)]
def hW(s:aw a H)(h:a p=none):aw a (upd H p o):=λb u e=>by rw[aK (cT e h)];calc s b u e
def CO(t:ci):TE:=λaa H Q=>t aa H λxs H1=>xs.length<=sizeLine/\∀p ai,H1 p=none->aw H1 ai->ai p=some (.tup xs)->Q (.ref p) ai
def CP(t:ci):TE:=λaa H Q=>t aa H λxs H1=>xs.length<=sizeLine/\∀p ai,H1 p=none->aw H1 ai->ai p=some (.lst xs)->Q (.ref p) ai
section
variable {X:aR}{ay:List Expr}{t:ci}{pos:Pos}
def kG(h:dF X ay t):aH X (.Tuple ay gh pos) (CO t):=by refine λpins s aa H Q I c=>wpAny_Tuple_spliced (aW (h pos pins s aa H _ I c) λus s1⟨xs,H1,aA,r,z,q⟩=>{by rwa[<-r.length],?_});have a:=aA.aS.fresh (W2 _);refine{.ref s1.heap.objs.size,upd H1 s1.heap.objs.size (.tup xs),aA.laid (λb u e=>W4 _ e) (W2 _) ?_,rfl,q _ _ a (fi a) aO};calc{z,us,r,{_,Xy _ rfl,rfl,_,rfl}}
def bN(h:dF X ay t):aH X (.List ay pos) (CP t):=by refine λpins s aa H Q I c=>wpAny_List_spliced (aW (h pos pins s aa H _ I c) λus s1⟨xs,H1,aA,r,z,q⟩=>{by rwa[<-r.length],?_});have a:=aA.aS.fresh (W2 _);refine{.ref s1.heap.objs.size,upd H1 s1.heap.objs.size (.lst xs),aA.laid (λb u e=>W4 _ e) (W2 _) ?_,rfl,q _ _ a (fi a) aO};calc{z,us,0,r,Xy _ rfl}
end
def lP(P:Program)(w:World)(K:PySem.W.Frag)(mg:Str->Option Value)(base:Heap)(CX:eD)(k:Nat)(x:Str)(C:Addr)(ps:List Str)(sp:bE):Prop:=
 ∃f fd,rh K C f/\dU P w K mg base CX k f fd ps sp/\mg x=some (.ref C)/\Binds K fd ps []
def kH(P:Program)(w:World)(K:PySem.W.Frag)(mg:Str->Option Value)(base:Heap)(CX:eD)(k:Nat)(C:Addr)(m:Str)(ps:List Str)(sp:bE):Prop:=
 ∃f fd,g_ K C/\rd K C m f/\dU P w K mg base CX k f fd ps sp/\Binds K fd ps []
def MethAt(K:PySem.W.Frag)(C:Addr)(m qual:Str)(ps:List Str)(st:Stmt):Prop:=∃f fd,g_ K C/\rd K C m f/\ir K m qual st f fd/\Binds K fd ps []
def gR(K:PySem.W.Frag)(mg:Str->Option Value)(x:Str)(C:Addr)(qual:Str)(ps:List Str)(st:Stmt):Prop:=∃f fd,g_ K C/\rh K C f/\mg x=some (.ref C)/\ir K "__init__" qual st f fd/\Binds K fd ps []
def CQ(C:Addr)(fs:List Str)(t:ci):TE:=λaa H Q=>t aa H λvs H1=>vs.length=fs.length/\∀x ao ai,H1 x=none->aw H1 ai->ai x=some (.ins C ao (fs.zip vs))->Q (.ref x) ai
def lQ(C:Addr)(fs:List Str):bE:=λvs H Q _=>∃p ao us,vs=.ref p::us/\us.length=fs.length/\H p=some (.ins C ao [])/\Q .bb (upd H p (.ins C ao (fs.zip us)))
section
variable {X:aR}{x m:Str}{p pos apos:Pos}{C:Addr}{CX:eD}{k:Nat}{ps:List Str}{sp:bE}{E:b8}{e o:Expr}{ay:List Expr}{t:ci}{aP:TE}
def hX(c:lP X.prog X.w X.K X.mg X.base dB k x C ps (lQ C fs))(b:b2 (k+1) X.A)(d:d2 X x)(g:dF X (e::ay) t)
  (hd:(x==("__debug__":Str))=false:=by decide) (i:starEach (e::ay) X.env=(false,eval e X.env)::starEach ay X.env:=by rfl) (a:(backTo pos (starEach ay X.env)).any (·.1)=false:=by rfl):
  aH X (.Call (.Name x p) (e::ay) [] pos) (CQ C fs t):=by
 let(f,fd,M,F,j,l):=c;refine λpins s aa H Q I h=>Yw (lC I d j ?_ hd);refine YK I.ok.mod.kc M.cL (aW (g pos pins s aa H _ I h) λus s1⟨vs,H1,aA,r,hl,q⟩=>{aA.kIn,?_}) i a;refine tz M F b l .nil dt aA r λx ao nx nd ne=>{x,ao,vs,by simp,hl,aO,rfl,?_};rw[gk];calc q x ao _ nx (hW (fi nd) nx) aO
def cY{pl:Sem Bool}(c:kH X.prog X.w X.K X.mg X.base CX k C m ps sp)(d:b2 k X.A)(g:Passes CX X E)(h:aH X o aP)(i:dF X (e::ay) t)
  (a:starEach (e::ay) X.env=(false,eval e X.env)::starEach ay X.env:=by rfl) (b:(backTo pos (starEach ay X.env)).any (·.1)=false:=by rfl)
  (j:eval (.Call (.Attribute o m apos) (e::ay) [] pos) X.env=(do
   let i5<-eval o X.env;standAt apos.atName;let(f,first)<-holding [i5] (getMethod i5 m pl);callWith pos f first (backTo pos (starEach (e::ay) X.env)) (backToKw pos (keywordEach [] X.env))):=by rfl):
  aH X (.Call (.Attribute o m apos) (e::ay) [] pos) (rf C m sp [] E aP t):=by
 let(f,fd,c,M,F,l):=c;calc JB h c M F d l .nil g i a b j
def t2(c:kH X.prog X.w X.K X.mg X.base CX k C m ps sp)(a:b2 k X.A)(b:Passes CX X E)(d:aH X o aP)
  (e:eval (.Call (.Attribute o m apos) [] [] pos) X.env=(do
   let i5<-eval o X.env;standAt apos.atName;let(f,first)<-holding [i5] (getMethod i5 m pl);callWith pos f first (backTo pos (starEach [] X.env)) (backToKw pos (keywordEach [] X.env))):=by rfl):
  aH X (.Call (.Attribute o m apos) [] [] pos) (rf C m sp [] E aP km):=by
 let(f,fd,c,M,F,g):=c;calc JC d c M F a g .nil b e
end
def rB{J:fh}{g:eM}{bi:cy}{D:Ends}(n:Nat)(Pv:Nat->L2.St->am->Prop)(h:Pv 0 aa H)(d:∀i aa H,i<n->Pv i aa H->J.go i H)(a:∀aa H,Pv n aa H->J.stop n H)
  (hs:∀i aa H x aj,i<n->Pv i aa H->J.hL i H x aj->g x aa aj λb ai=>bi {D with nx:=Pv (i+1),ct:=Pv (i+1),bk:=D.nx} b ai) (hd:∀aa H,Pv n aa H->D.nx aa H):
  ∃W:Nat->Nat->L2.St->am->Prop,(∃m,W 0 m aa H)/\∀i m aa H,W i m aa H->
   (J.stop i H/\D.nx aa H)\/(J.go i H/\∃N:L2.St->am->Prop,(∀σ' aj,N σ' aj->∃f,f<m/\W (i+1) f σ' aj)/\∀x aj,J.hL i H x aj->g x aa aj λb ai=>bi {D with nx:=N,ct:=N,bk:=D.nx} b ai):=by
 refine{λi m aa H=>m=n-i/\i<=n/\Pv i aa H,{n,by simp,Xk _,h},?_};rintro i m aa H ⟨rfl,af,p⟩;by_cases c:i<n;exact .inr {d i aa H c p,Pv (i+1),λσ' aj j=>{n-(i+1),by grind,rfl,c,j},λx aj y=>hs i aa H x aj c p y};grind
def CR {J:fh}{g:eM}{tt:TT}{te:TE}{vs:List Nat}{aa:L2.St}{H1:am}{D:Addr}{Qd:am->Prop} (n:Nat) (Pv:Nat->am->Prop) (o:Pv 0 (upd H1 D (.lst []))) (j:∀i H,i<n->Pv i H->J.go i H) (c:∀H,Pv n H->J.stop n H)
  (hs:∀i H x aj,i<n->Pv i H->J.hL i H x aj->g x (wipe aa vs) aj λa ai=>wipe a vs=wipe aa vs/\tt a ai λb f=>
   if b=true then te a f λy h=>∃acc,h D=some (.lst acc)/\acc.length<sizeLine/\Pv (i+1) (upd h D (.lst (acc++[y]))) else Pv (i+1) f) (hd:∀H,Pv n H->Qd H):
  ∃W:Nat->Nat->am->Prop,(∃m,W 0 m (upd H1 D (.lst [])))/\∀i m H,W i m H->
   (J.stop i H/\Qd H)\/(J.go i H/\∃k:am->Prop,(∀aj,k aj->∃l,l<m/\W (i+1) l aj)/\∀x aj,J.hL i H x aj->g x (wipe aa vs) aj λa ai=>wipe a vs=wipe aa vs/\tt a ai λb f=>
    if b=true then te a f λy h=>∃acc,h D=some (.lst acc)/\acc.length<sizeLine/\k (upd h D (.lst (acc++[y]))) else k f):=by
 refine{λi m H=>m=n - i/\i<=n/\Pv i H,{n,by simp,Xk _,o},?_}
 rintro i m H ⟨rfl,af,p⟩
 by_cases d:i<n
 ·exact .inr {j i H d p,Pv (i+1),λaj q=>{n - (i+1),by lia,rfl,d,q},λx aj y=>hs i H x aj d p y}
 ·grind
abbrev rC(H:am)(ys:List V)(Q:aE):Prop:=∀p ai,H p=none->aw H ai->ai p=some (.lst ys)->Q (.ref p) ai
def Mo(l b:Addr):am->aE->Prop:=λH Q=>∃xs zs,H l=some (.lst xs)/\H b=some (.lst zs)/\xs.length+zs.length<=sizeLine/\rC H (xs++zs) Q
def xO:dr:=λx y H Q=>match x,y with|.int i,.int j=>Q (.int (i+j)) H|.str i,.str j=>i.length+j.length<=sizeLine/\Q (.str (i++j)) H|.ref l,.ref b=>Mo l b H Q|_,_=>False
def Mp(l:Addr)(k:Int):am->aE->Prop:=λH Q=>∃v,H l=some (.lst [v])/\0<=k/\k<=sizeLine/\rC H (List.replicate k.toNat v) Q
def xP:dr:=λx y H Q=>match x,y with|.int i,.int j=>IntMulOk i j/\Q (.int (i*j)) H|.ref l,.int k=>Mp l k H Q|_,_=>False
def t4(K:PySem.W.Frag):dr:=λx y H Q=>match x,y with|.ref a,.ref b=>tG K (.ref a) (.ref b) H Q|.int i,.int j=>Q (.aG (decide (i=j))) H|.str i,.str j=>Q (.aG (decide (i=j))) H|_,_=>False
def t5(K:PySem.W.Frag):dr:=λx y H Q=>match x,y with|.ref a,.ref b=>xa K (.ref a) (.ref b) H Q|.int i,.int j=>Q (.aG (!decide (i=j))) H|.str i,.str j=>Q (.aG (!decide (i=j))) H|_,_=>False
def CS(K:PySem.W.Frag)(p:Addr):am->aE->Prop:=λH Q=>∃ys,(au K H p ys\/bJ K H p ys)/\Q (.int ys.length) H
def rD(K:PySem.W.Frag):List V->am->aE->Prop:=λxs H Q=>match xs with|[.ref p]=>CS K p H Q|[.str z]=>z.length<=sizeLine/\Q (.int z.length) H|_=>False
def xQ(K:PySem.W.Frag)(a:Addr)(i:Int):am->aE->Prop:=λH Q=>∃xs v,(au K H a xs\/bJ K H a xs)/\hP xs i=some v/\Q v H
def rE(K:PySem.W.Frag):dr:=λx y H Q=>match x,y with|.ref a,.int i=>xQ K a i H Q|.str z,.int i=>z.length<=sizeLine/\∃c,hP z.cps.toList i=some c/\Q (.str {#[c]}) H|_,_=>False
def xR(K:PySem.W.Frag):V->Option Int->Option Int->am->aE->Prop:=λx lo af H Q=>∃a xs,x=.ref a/\au K H a xs/\rC H (ha xs lo af) Q
def CT(K:PySem.W.Frag):List V->am->aE->Prop:=λxs H Q=>∃p ys,xs=[.ref p]/\(au K H p ys\/bJ K H p ys)/\rC H ys Q
theorem CU{v:V}:∀n,(List.replicate n [v]).flatten=List.replicate n v|0=>rfl|n+1=>by erw[YS,Y4,CU n];rfl
section
variable {X:aR}
def t6(h:rC H ys Q):∀p,H p=none->Q (.ref p) (upd H p (.lst ys)):=λp a=>h p _ a (fi a) aO
def dY:cI X (binaryOp .Add) xO:=by intro pins s aa H x y v u Q I a b q;unfold xO at q;split at q;calc Jh pins s aa H _ _ v u Q I a b q;calc Jm pins s aa H _ _ v u Q I a b {_,_,rfl,rfl,q.1,q.2};let(xs,zs,c,d,e,q):=q;calc J_ pins s aa H _ _ v u Q I a b {_,_,xs,zs,rfl,rfl,c,d,e,t6 q};nofun
def dH:cI X (binaryOp .Mult) xP:=by
 intro pins s aa H x y v u Q I a b q;unfold xP at q;split at q;calc Mh pins s aa H _ _ v u Q I a b q;let(z,d,e,c,q):=q;rename_i l k;have ak:k<=16777216:=by rwa[WJ]at c
 refine Ka pins s aa H _ _ v u Q I a b {l,k,[z],rfl,rfl,d,by lia,by lia,?_,?_};nofun;rw[CU];calc t6 q;nofun
def ra(i j):decide (V.int i=V.int j)=decide (i=j):=by simp
def rb(i j):decide (V.str i=V.str j)=decide (i=j):=by simp
def Mq(c:X.A.units+64<cLine):cI X (compareOp .Eq) (t4 X.K):=by intro pins s aa H x y v u Q I a b q;unfold t4 at q;split at q;calc Kj c pins s aa H _ _ v u Q I a b q;exact AY pins s aa H _ _ v u Q I a b {rfl,by rwa[ra]};exact AY pins s aa H _ _ v u Q I a b {rfl,by rwa[rb]};nofun
def Mr(c:X.A.units+64<cLine):cI X (compareOp .NotEq) (t5 X.K):=by intro pins s aa H x y v u Q I a b q;unfold t5 at q;split at q;calc Kk c pins s aa H _ _ v u Q I a b q;exact AZ pins s aa H _ _ v u Q I a b {rfl,by rwa[ra]};exact AZ pins s aa H _ _ v u Q I a b {rfl,by rwa[rb]};nofun
def Ms:dT X (.builtin "len") (rD X.K):=by intro pins s aa H xs us Q I r h;unfold rD at h;split at h;let(ys,ae,q):=h;calc JW pins s aa H _ us Q I r {_,ys,rfl,ae,q};calc JX pins s aa H _ us Q I r {_,rfl,h.1,h.2};nofun
def Mt:i6 X (rE X.K):=by
 intro value a pins s aa H x y v u Q I b d q hs;unfold rE at q;split at q;let(xs,z,ae,ag,q):=q;rcases ae with ae|ae;calc JL value a pins s aa H _ _ v u Q I b d {_,xs,_,z,rfl,rfl,ae,ag,q} hs;calc JM value a pins s aa H _ _ v u Q I b d {_,xs,_,z,rfl,rfl,ae,ag,q} hs;let(ae,c,ag,q):=q;calc JN value a pins s aa H _ _ v u Q I b d {_,_,c,rfl,rfl,ae,ag,q} hs;nofun
def Mu:lG X (xR X.K):=by intro pins s aa H x v b c lo af a3 Q I d hs pl f q;let(a,xs,e,ae,q):=q;calc JS pins s aa H x v b c lo af a3 Q I d hs pl f {a,xs,e,ae,t6 q}
def Mv:dT X (.type "list") (CT X.K):=by intro pins s aa H xs us Q I r h;let(p,ys,e,ae,q):=h;calc JY pins s aa H xs us Q I r {p,ys,e,ae,t6 q}
def CV:q6 X .Add (λx y H Q=>∃i j,x=.str i/\y=.str j/\i.length+j.length<=sizeLine/\Q (.str (i++j)) H):=λpins s aa H x y v u Q I a b q=>Jn pins s aa H x y v u Q I a b q
def xS(K:PySem.W.Frag):V->V->am->aE->Prop:=λx y H Q=>∃p xs j v,x=.ref p/\y=.int ((j:Nat))/\au K H p xs/\xs[j]? =some v/\Q v H
def Mw:wQ X (xS X.K):=by intro pins s aa H x y v u Q I c d q;let(p,xs,j,z,rfl,rfl,e,hz,q):=q;cases c;let(t,rfl):=(show∃t,u=Value.int j t from d);let(its,b,pl,hsz):=I.list e;let(f,g,a):=b.get hz;have hl:=b.length;have h:=(WH.mp hz).1;erw[WJ]at hsz;calc wpAny_getItem_list pl.isList (by nofun) (by lia) (by nofun) (show en X pins aa Q f s from⟨z,H,I,a,q⟩)
def Mx(c:lP X.prog X.w X.K X.mg X.base CX k x C ps sp)(a:b2 (k+1) X.A)(b:d2 X x)(d:Passes CX X E)(hd:(x==("__debug__":Str))=false:=by decide):
  aH X (.Call (.Name x p) [] [] pos) (rg C sp [] E km):=by
 let(f,fd,M,F,e,g):=c;calc JE M F a b e g .nil d hd
def xT(ds:List (Addr×bE))(te:TE)(t:ci):TE:=λaa H Q=>te aa H λx H1=>∃f sp,x=.ref f/\(f,sp)∈ds/\t aa H1 λvs ai=>sp vs ai Q ry
def My{a pos:Pos}(ds:List (Addr×bE))(b:∀f sp,(f,sp)∈ds->∃fd,dU X.prog X.w X.K X.mg X.base dB k f fd ps sp/\keepIn X.K (.ref f)=true/\Binds X.K fd ps [])
  (j:b2 k X.A) (l:aH X (.Subscript o i a) te) (m:dF X (e::ay) t) (c:starEach (e::ay) X.env=(false,eval e X.env)::starEach ay X.env:=by rfl) (d:(backTo pos (starEach ay X.env)).any (·.1)=false:=by rfl):
  aH X (.Call (.Subscript o i a) (e::ay) [] pos) (xT ds te t):=by
 intro pins s aa H Q I h;show wpAny _ _ (do callWith pos (<-eval (.Subscript o i a) X.env) [] (backTo pos (starEach (e::ay) X.env)) (backToKw pos (keywordEach [] X.env))) _ _ s;refine wpAny_bind (aW (l pins s aa H _ I h) λu s1 zz=>?_);let(x,H1,aA,n,f,sp,ex,p,q):=zz;subst ex;obtain rfl:u=Value.ref f:=n;let(fd,F,ak,v):=b f sp p;refine YK (h₀:=X.base) aA.ok.mod.kc ak (aW (m pos pins s1 aa H1 _ aA q) λus y⟨vs,ai,g,r,w⟩=>{g.kIn,?_}) c d;calc tx F j v .nil dt g r (by nofun)
end
section
variable {X:aR}{K:PySem.W.Frag}
def Mz(h:X.K=K):i6 X (rE K):=by subst h;calc Mt
def k_get(h:X.K=K):wQ X (xS K):=by subst h;calc Mw
def fF(h:X.K=K)(a:X.A.units+64<cLine):cI X (compareOp .Eq) (t4 K):=by subst h;calc Mq a
def k_ne(h:X.K=K)(a:X.A.units+64<cLine):cI X (compareOp .NotEq) (t5 K):=by subst h;calc Mr a
def k_in(h:X.K=K):cI X (compareOp .In) (m6 K false):=by subst h;calc JU
def MA(h:X.K=K):cI X (compareOp .NotIn) (m6 K true):=by subst h;calc JV
def MB(h:X.K=K):dT X (.builtin "len") (rD K):=by subst h;calc Ms
def nq(h:X.K=K)(hc:X.calm=true):dT X (.builtin "sum") (Bo K):=by subst h;calc Kc hc
def CW(h:X.K=K)(hc:X.calm=true):dT X (.builtin "any") (Bt K):=by subst h;calc Kh hc
def k_all(h:X.K=K)(hc:X.calm=true):dT X (.builtin "all") (Bu K):=by subst h;calc Ki hc
def o'(h:X.K=K):dT X (.type "list") (CT K):=by subst h;calc Mv
def jF(h:X.K=K):lG X (xR K):=by subst h;calc Mu
def ed(K:PySem.W.Frag)(f:Str)(a:Addr):am->aE->Prop:=λH Q=>∃C ao fs v,H a=some (.ins C ao fs)/\g_ K C/\kl K C f/\fs.lookup f=some v/\Q v H
def xU(K:PySem.W.Frag)(aP:TE)(f:Str):TE:=λaa H Q=>aP aa H λx H1=>match x with|.ref a=>ed K f a H1 Q|_=>False
def MC{e:Expr}{f:Str}(h:X.K=K)(b:aH X e aP)(d:attributeBase e f X.env (eval e X.env)=eval e X.env):aH X (.Attribute e f pos) (xU K aP f):=by
 subst h;refine λpins s aa H Q I g=>?_;refine A' d (aW (b pins s aa H _ I g) λu s1 zz=>?_);let(x,H1,aA,i,q):=zz;cases x with
 |ref a=>let(C,ao,fs,v,j,c,n,l,q):=q;obtain rfl:u=Value.ref a:=i;calc A8 aA j c n l λo p k m=>⟨v,H1,k,m,q⟩
 |_=>nofun
def CY(K:PySem.W.Frag)(f:Str)(a:Addr)(y:V):am->(am->Prop)->Prop:=λH R=>∃C ao fs,H a=some (.ins C ao fs)/\g_ K C/\kl K C f/\fs.length<1000/\R (upd H a (.ins C ao (fQ f y fs)))
def xV(K:PySem.W.Frag)(aP ea:TE)(f:Str):cy:=λD aa H=>ea aa H λy H1=>aP aa H1 λx ai=>match x with|.ref a=>CY K f a y ai λb=>D.nx aa b|_=>False
def MD {o value:Expr}{f:Str}{pos pos':Pos}{aP ea:TE} (d:X.K=K) (e:aH X o aP) (g:aH X value ea) (hs:swapsWith value (some (.Attribute o f pos')) pos.line X.env=pure false):fz X (.Assign [.Attribute o f pos'] value pos) (xV K aP ea f):=by
 subst d;intro pins s aa H D I h;refine Y6 (aW (g pins s aa H _ I h) λu s1 ⟨y,H1,aA,i,q⟩=>aW (e pins s1 aa H1 _ aA q) λj t zz=>?_) hs;let(x,ai,k,m,b):=zz;cases x with
 |ref a=>
  let(C,ao,fs,p,c,n,l,b):=b;obtain rfl:j=Value.ref a:=m;calc A_ k p c n l i λv r=>{aa,_,r,b}
 |_=>nofun
def ee{k:Nat}{pos:Pos}(b:X.K=K)(hc:X.calm=true)(h:q4 X ay t)(c:(assignEach ay X.env).length=n:=by rfl)(a:(assignEach ay X.env).findIdx? (·.1)=none:=by rfl):ik X (.Tuple ay k pos) (i3 K n t):=by subst b;calc I6 hc h c a
def ME(h:X.K=K)(hl:aH X l bT):hM X bK l (lE K bT):=by subst h;calc I_ hl
end
structure bC where
 Fault:Addr
 Token:Addr
 Reader:Addr
 ReadStep:Addr
 ReadState:Addr
 ReadChain:Addr
 Chain:Addr
 StateClass:Addr
 Sums:Addr
 Walk:Addr
 Desk:Addr
structure Cl(K:PySem.W.Frag)(C:Addr)(fs:List Str):Prop where
 cls:g_ K C
 no:∀f∈fs,kl K C f
structure ef(K:PySem.W.Frag)(ad:bC):Prop where
 token:Cl K ad.Token ["kind","value","place","behind"]
 reader:Cl K ad.Reader ["tokens","taken"]
 readStep:Cl K ad.ReadStep ["name","weight"]
 readState:Cl K ad.ReadState ["name","worth","steps"]
 readChain:Cl K ad.ReadChain ["title","states","start"]
 chain:Cl K ad.Chain ["title","names","worths","steps","start"]
 stateClass:Cl K ad.StateClass ["states","closed"]
 sums:Cl K ad.Sums ["tops","bottom"]
 walk:Cl K ad.Walk ["rows","totals","ends","worths","ways","classes","closed","kept_come","kept_steps","kept_gain","kept_steady"]
 desk:Cl K ad.Desk ["chain","walk"]
section
variable {P:Program}{w:World}{K:PySem.W.Frag}{mg:Str->Option Value}{base:Heap}{m x qual:Str}{st:Stmt}{N ps:List Str}{k:Nat}{sp:bE}{C gt:Addr}
def CZ(D:MethAt K C m qual ps st)(S:fA N ps (bL st))(len:∀vs H Q E,sp vs H Q E->vs.length=ps.length)
  (a:∀(f:Addr)(a_:Value)(A:Around)(outer:List Env)(s:Shared)(H:am)(vs:List V)(Q:aE)(E:b8),b2 k (A.deeper (envOfC qual (bL st) s.heap.objs.size f a_))->sp vs H Q E->
   ∃t,eo (ep dB P w K mg base N qual (bL st) f a_ A outer s H E).hJ (eO st) t/\t {nx:=λ_ aj=>Q .bb aj,rt:=Q} (start N vs) H):kH P w K mg base dB (k+1) C m ps sp:=by
 let(f,fd,cl,M,F,b):=D;calc{f,fd,cl,M,F.ok S len λa_ A outer s H vs Q E c h=>a f a_ A outer s H vs Q E c h,b}
def MF(D:MethAt K C m qual ps st)(S:fA N ps (bL st))(len:∀vs H Q E,sp vs H Q E->vs.length=ps.length)
  (a:∀(f:Addr)(a_:Value)(A:Around)(outer:List Env)(s:Shared)(H:am)(vs:List V)(Q:aE)(E:b8),b2 k (A.deeper (envOfC qual (bL st) s.heap.objs.size f a_))->sp vs H Q E->
   ∃t,eo (ep (eQ P w gt) P w K mg base N qual (bL st) f a_ A outer s H E) (eO st) t/\t {nx:=λ_ aj=>Q .bb aj,rt:=Q} (start N vs) H):kH P w K mg base (eQ P w gt) (k+1) C m ps sp:=by
 let(f,fd,cl,M,F,b):=D;calc{f,fd,cl,M,CF F S len λa_ A outer s H vs Q E c h=>a f a_ A outer s H vs Q E c h,b}
def C0(D:gR K mg x C qual ps st)(S:fA N ps (bL st))(len:∀vs H Q E,sp vs H Q E->vs.length=ps.length)
  (a:∀(f:Addr)(a_:Value)(A:Around)(outer:List Env)(s:Shared)(H:am)(vs:List V)(Q:aE)(E:b8),b2 k (A.deeper (envOfC qual (bL st) s.heap.objs.size f a_))->sp vs H Q E->
   ∃t,eo (ep dB P w K mg base N qual (bL st) f a_ A outer s H E).hJ (eO st) t/\t {nx:=λ_ aj=>Q .bb aj,rt:=Q} (start N vs) H):lP P w K mg base dB (k+1) x C ps sp:=by
 let(f,fd,cl,M,b,F,c):=D;calc{f,fd,M,F.ok S len λa_ A outer s H vs Q E d h=>a f a_ A outer s H vs Q E d h,b,c}
end
abbrev Re(α:Type):=am->V->α->Prop
def bw{α a:Type}(R:α->a->Prop)(xs:List α)(ys:List a):Prop:=xs.length=ys.length/\∀(i:Nat)x y,xs[i]? =some x->ys[i]? =some y->R x y
def MG:Re Int:=λ_ v i=>v=.int i
def C1:Re Str:=λ_ v z=>v=.str z
def gu(K:PySem.W.Frag):Re (Int×Int):=λH v q=>∃a,v=.ref a/\bJ K H a [.int q.1,.int q.2]
def cv(R:Re α):Re (List α):=λH v l=>∃a xs,v=.ref a/\H a=some (.lst xs)/\bw (R H) xs l
def cZ:Re (List Int):=λH v l=>∃a,v=.ref a/\H a=some (.lst (l.map V.int))
def c7(R:Re α):Prop:=∀H aj v x,aw H aj->R H v x->R aj v x
def d9{K:PySem.W.Frag}(e:aw H aj)(h:bJ K H a xs):bJ K aj a xs:=by
 rcases h with(h|⟨o,h⟩)|h;calc .inl (.inl (e _ _ h));calc .inl (.inr {o,e _ _ h});calc .inr h
def bw.imp{R S:α->c->Prop}{xs:List α}{ys:List c}(h:bw R xs ys)(k:∀x y,R x y->S x y):bw S xs ys:={h.1,λi x y a b=>k x y (h.2 i x y a b)}
def bw.nil:bw R [] []:={rfl,λi x y a=>by simp at a}
def bw.snoc(h:bw R xs ys)(r:R x y):bw R (xs++[x]) (ys++[y]):=by
 refine{by erw[WI,WI,h.1];rfl,λi a b c d=>?_};rcases Nat.lt_or_ge i xs.length with q|q;rw[YG q]at c;rw[YG (by rwa[<-h.1])]at d;calc h.2 i a b c d;rw[X0 q]at c;rw[X0 (by rwa[<-h.1]),<-h.1]at d;cases af:i-xs.length with|zero=>nofun|succ n=>nofun
def bw.get{R:α->a->Prop}{xs:List α}{ys:List a}(h:bw R xs ys){i:Nat}{y:a}(e:ys[i]? =some y):∃x,xs[i]? =some x/\R x y:=by have af:=(WH.mp e).1;have b:xs[i]? =some (xs[i]'(by rwa[h.1])):=WK _;calc{_,b,h.2 i _ y b e}
def bw.get'{R:α->a->Prop}{xs:List α}{ys:List a}(h:bw R xs ys){i:Nat}{x:α}(e:xs[i]? =some x):∃y,ys[i]? =some y/\R x y:=by have af:=(WH.mp e).1;have b:ys[i]? =some (ys[i]'(by rwa[<-h.1])):=WK _;calc{_,b,h.2 i x _ e b}
def hj:c7 MG:=λ_ _ _ _ _ h=>h
def xW:c7 C1:=λ_ _ _ _ _ h=>h
def C2{K:PySem.W.Frag}:c7 (gu K):=λ_ _ _ _ s zz=>by let(a,e,h):=zz;calc {a,e,d9 s h}
def c8(m:c7 R):c7 (cv R):=λH aj _ _ s zz=>by let(a,xs,e,h,r):=zz;calc {a,xs,e,s _ _ h,r.imp λx y z=>m H aj x y s z}
def kI:c7 cZ:=λ_ _ _ _ s zz=>by let(a,e,h):=zz;calc {a,e,s _ _ h}
def del(H:am)(D:Addr):am:=λb=>if b=D then none else H b
def fG:del H D D=none:=by unfold del;rw[WO rfl]
def bf(h:b≠D):del H D b=H b:=by unfold del;rw[WM h]
def c_(h:del H D b=some o):H b=some o:=by unfold del at h;split at h;nofun;omega
def cj:del (upd H D o) D=del H D:=by funext b;unfold del upd;split<;>rfl
def f5(h:H D=none):del H D=H:=by funext b;unfold del;split;nofun;rfl
section
variable {X:aR}{pins:List (Addr×Obj)}{aa:L2.St}{H:am}{s:Shared}
def MH(I:Inv X pins aa H s)(h:H D=some (.lst xs)):∃o,s.heap.get? D=some o/\Inv X (pins++[(D,o)]) aa (del H D) s:=by
 let(z,its,n,r,e):=(show cX X.prog X.w H s.heap D (.lst xs)from I.aS D _ h);refine{_,e,I.ok,I.os,I.bare,?_,I.loc,I.cell,?_,λx c q=>?_,λp a8=>?_,λa o q=>?_,I.len};refine{I.base.keep,I.base.slot,λb o q n d=>?_,I.base.there,λb ys q=>?_,λb o u q=>?_,λb ps q=>?_};have z:=I.base.free b o q n d;rw[bf λe=>by rw[e,h]at z;cases z];calc z;have z:=I.base.fw b ys q;rw[bf λe=>by rw[e,h]at z;cases z];calc z;have z:=I.base.fe b o u q;rw[bf λe=>by rw[e,h]at z;cases z];calc z;let(m,z):=I.base.fx b ps q;exact{m,by rw[bf λe=>by rw[e,h]at z;cases z];calc z};rw[bf λe=>by have z:=I.free;rw[e,h]at z;cases z];calc I.free;rw[bf λe=>by have z:=I.fy x c q;rw[e,h]at z;cases z];calc I.fy x c q;rw[<-XZ]at a8;rcases Xc.mp a8 with a8|a8
 let(g,f,i,j,k):=I.pin p a8;refine{g,?_,i,j,k};rw[bf λe=>by rw[e,h]at f;cases f];calc f;rw[WQ.mp a8];refine{e,fG,λz=>?_,λm=>?_,λv z=>?_};have q:=I.free;rw[<-show D=X.env.locals from z,h]at q;cases q;let(_,o,l,_):=I.ok.funs.mem m;have q:=I.ok.iX D m;have z:=I.base.free D o l q (λw=>I.ok.lA D w m);rw[h]at z;cases z;nofun;refine(I.aS a o (c_ q)).ij (λb u _ z=>z) (λb z=>?_) λb ys z=>?_;rw[bf λe=>by rw[e,h]at z;cases z];calc z;rw[bf λe=>by rw[e,h]at z;cases z];calc z
def MI(I:Inv X (pins++[(D,o)]) aa H s)(ok:∀aj h,h.get? D=some o->cX X.prog X.w aj h D (.lst xs))(i:∀u,X.s_0.heap.get? D=some u->X.H_0 D=none->D∉X.ex->False)(f:∀p∈X.pn++pins,p.1≠D):H D=none/\Inv X pins aa (upd H D (.lst xs)) s:=by
 have P:=I.pin (D,o) (by simp);have d:=P.2.1;refine{d,I.ok,I.os,I.bare,?_,I.loc,I.cell,?_,λx c q=>?_,λp a8=>?_,λa u q=>?_,I.len};refine{I.base.keep,I.base.slot,λb u q n g=>?_,I.base.there,λb ys q=>?_,λb a u q=>?_,λb ps q=>?_};have z:=I.base.free b u q n g;rw[aK λe=>by subst e;calc i u q n g];calc z;have z:=I.base.fw b ys q;rwa[aK (cT z d)];have z:=I.base.fe b a u q;rwa[aK (cT z d)];let(m,z):=I.base.fx b ps q;exact{m,by rwa[aK (cT z d)]};rw[aK λe=>P.2.2.1 e.symm];calc I.free;rw[aK λe=>by let(v,dq,j,hd):=I.cell x c q;have z:=P.2.2.2.2 v;have w:=P.1;simp only[<-show c=D from e,j]at w;cases w;calc z hd];calc I.fy x c q;let(k,l,r,t,y):=I.pin p (by grind);refine{k,?_,r,t,y};rwa[aK (f p a8)];by_cases e:a=D;subst e;rw[aO]at q;cases q;calc ok _ _ P.1;rw[aK e]at q;refine(I.aS a u q).ij (λb v _ z=>z) (λb z=>?_) λb ys z=>?_;rwa[aK (cT z d)];rwa[aK (cT z d)]
def gv(t:TE):TE:=λaa H Q=>∃D xs,H D=some (.lst xs)/\t aa (del H D) λv ai=>ai D=none->Q v (upd ai D (.lst xs))
def ck(h:aH X e t):aH X e (gv t):=by
 intro pins s aa H Q I c;let(D,xs,a,d):=c;let(o,b,f):=MH I a;refine aW (h _ s aa _ _ f d) λu x zz=>?_;let(v,ai,g,r,q):=zz;let(z,its,n,i,e):=(show cX X.prog X.w H s.heap D (.lst xs)from I.aS D _ a);rw[e]at b;cases b;let(j,k):=MI g (λaj h' q=>⟨z,its,n,i,q⟩) (λu q n l=>by
  have w:=I.base.free D u q n l;rw[a]at w;cases w) λp m w=>by
  have y:=(I.pin p m).2.1;rw[w,a]at y;cases y
 calc{v,_,k,r,q j}
end
theorem eh{α:Type}:∀{l:List α}{i:Nat}{x:α},l[i]? =some x->l.take (i+1)=l.take i++[x]|[],i,x,h=>by simp at h|a::l,0,x,h=>by have e:=Xw h;subst e;simp|a::l,i+1,x,h=>by have b:=eh (i:=i) h;rw[aat,b];rfl
def t7{J:fh}{g:eM}{Q:aE}{R:Re α}(t:c7 R)zs(j:Nat->am->L2.St)(hsz:zs.length<=sizeLine)
  (k:∀i H,i<zs.length->aw H1 H->J.go i H) (a:∀H,aw H1 H->J.stop zs.length H)
  (l:∀i H x aj,i<zs.length->aw H1 H->J.hL i H x aj->aw H aj/\wipe (j i aj) vs=wipe aa vs/\∀u:L2.St->am->Prop,u (j i aj) aj->g x (wipe aa vs) aj u)
  (f:∀i z G aj(w:aE),zs[i]? =some z->aw H1 G->aw G aj->(∀v h,aw G h->R h v z->w v h)->te (j i aj) G w)
  (done:∀D ai us,H1 D=none->aw H1 ai->ai D=some (.lst us)->bw (R ai) us zs->Q (.ref D) ai):
  ∀D,H1 D=none->∃W:Nat->Nat->am->Prop,(∃m,W 0 m (upd H1 D (.lst [])))/\∀i m H,W i m H->
   (J.stop i H/\Q (.ref D) H)\/(J.go i H/\∃n:am->Prop,(∀aj,n aj->∃A,A<m/\W (i+1) A aj)/\∀x aj,J.hL i H x aj->g x (wipe aa vs) aj λc ai=>wipe c vs=wipe aa vs/\kq c ai λb B=>
    if b=true then gv te c B λy C=>∃acc,C D=some (.lst acc)/\acc.length<sizeLine/\n (upd C D (.lst (acc++[y])))else n B):=by
 intro D E;refine CR zs.length (λi H=>∃acc,H D=some (.lst acc)/\aw H1 (del H D)/\bw (R (del H D)) acc (zs.take i)) {[],aO,?_,?_} ?_ ?_ ?_ ?_;erw[cj,f5 E];calc aw.refl H1;calc bw.nil;rintro i H af ⟨acc,ae,ag,d⟩;calc k i H af λb o q=>c_ (ag b o q);rintro H ⟨acc,ae,ag,d⟩;calc a H λb o q=>c_ (ag b o q);rintro i H x aj af ⟨acc,ae,ag,d⟩ L;let(F,M,N):=l i H x aj af (λb o q=>c_ (ag b o q)) L;refine N _ {M,?_};obtain⟨z,hz⟩:∃z,zs[i]? =some z:={_,WK af};have s:aw (del H D) (del aj D):=λb o q=>by
  have O:b≠D:=λe=>by rw[e,fG]at q;cases q
  rw[bf O]at q⊢;exact F b o q
 refine{D,acc,(F _ _ ae),f i z (del aj D) aj _ hz (ag.trans s) (λb o q=>c_ q) λv h I P K=>{acc,aO,?_,acc++[v],aO,?_,?_}};rw[d.1,Yp];lia;erw[cj,cj,f5 K];calc(ag.trans s).trans I;erw[cj,cj,f5 K,eh hz];calc(d.imp λv z r=>t _ _ v z (s.trans I) r).snoc P;rintro H ⟨acc,ae,ag,d⟩;erw[XO]at d;calc done D H acc E (λb o q=>c_ (ag b o q)) ae (d.imp λv z r=>t _ _ v z (λb o q=>c_ q) r)
def er{K:PySem.W.Frag}{R:Re α}(g:c7 R)(zs:List α)(hsz:zs.length<=sizeLine)
  (hl:∀d:aE,(∀a xs H1,au K H1 a xs->xs.length=zs.length->
   (∀(j:Nat)x z G(b:aE),xs[j]? =some x->zs[j]? =some z->aw H1 G->(∀v c,aw G c->R c v z->b v c)->te (aa.set i (some x)) G b)->
   (∀D ai us,H1 D=none->aw H1 ai->ai D=some (.lst us)->bw (R ai) us zs->Q (.ref D) ai)->d (.ref a) H1)->bT aa H d):
  hR (lE K bT) (dg i) kq (gv te) [i] aa H Q:=by
 refine hl _ λa xs H1 ae ag h k=>{a,rfl,⟨xs,ae⟩,?_};refine t7 g zs (λj _=>aa.set i xs[j]?) hsz (λj G l s=>?_) (λG s=>{xs,s.seq ae,by nofun}) (λj G x c l s y=>?_) (λj z G aj b hz s s' q=>?_) k;calc{xs,xs[j]'(by nofun),s.seq ae,WK _};let(e,y):=y;subst e;refine{aw.refl _,?_,λm n=>?_};show(aa.set i xs[j]?).set i none=aa.set i none;rw[XU];show m ((aa.set i none).set i (some x)) _;rw[XU,<-y xs (s.seq ae)];calc n;obtain⟨x,f⟩:∃x,xs[j]? =some x:={_,WK (by have:=(WH.mp hz).1;nofun)};show te (aa.set i xs[j]?) G b;rw[f];calc h j x z G b f hz s q
def kJ(Pv:Nat->L2.St->am->Prop)(dM:L2.St->am->Prop)(m0:Nat)(d:Pv m0 aa H)(b:∀aa H,dM aa H->D.nx aa H)
  (hs:∀m aa H,Pv m aa H->∀C:Bool->am->Prop,(∀H1,bi {D with nx:=λσ' aj=>∃a,a<m/\Pv a σ' aj,ct:=λσ' aj=>∃a,a<m/\Pv a σ' aj,bk:=D.nx} aa H1->C true H1)->(∀H1,dM aa H1->C false H1)->c aa H C):wU c bi D aa H:=by
 refine{Pv,⟨m0,d⟩,λm aa H p=>hs m aa H p _ (λH1 h=>?_) (λH1 h=>?_)};rw[WO rfl];calc{_,λ_ _ z=>z,h};nofun
def MJ(K:PySem.W.Frag)(z:Str)(a:Addr):am->aE->Prop:=λH Q=>∃ys,au K H a (ys.map V.str)/\(ys.map (·.length)).sum+ys.length*z.length<=16777216/\Q (.str (Txt.join z ys)) H
def t8(K:PySem.W.Frag):V->List V->am->aE->Prop:=λx xs H Q=>match x,xs with|.str z,[.ref a]=>MJ K z a H Q|_,_=>False
def MK{K:PySem.W.Frag}(a:X.K=K):hb X "str.join" (t8 K):=by subst a;intro pins s aa H x xs v us Q I b c h;unfold t8 at h;split at h;let(ys,ae,ag,q):=h;calc Lf pins s aa H _ _ v us Q I b c {_,_,ys,rfl,rfl,.inl ae,ag,q};nofun
def xX{K:PySem.W.Frag}{apos pos:Pos}(c:X.K=K)(d:aH X o to)(f:aH X e te)(hs:starEach [e] X.env=[(false,eval e X.env)]:=by rfl)(a:attributeBase o "join" X.env (eval o X.env)=eval o X.env:=by rfl)(b:(apos.endLine==pos.line)=true:=by rfl):
  aH X (.Call (.Attribute o "join" apos) [e] [] pos) (xz (t8 K) to te):=Lg F.slot_str_join F.type_str_join (MK c) d f hs a b
theorem t9:∀xs ys:List Int,PyData.eqvAll (xs.map .int) (ys.map .int)=decide (xs=ys)|[],[]=>by simp[PyData.eqvAll]|x::xs,y::ys=>by have a:=t9 xs ys;simp[PyData.eqvAll,PyData.eqv,a];by_cases ae:x=y<;>by_cases ag:xs=ys<;>simp[ae,ag]|[],y::ys=>by simp[PyData.eqvAll]|x::xs,[]=>by simp[PyData.eqvAll]
theorem lay_ints:∀xs:List Int,PyData.canLayAll0 (xs.map .int)=true|[]=>by simp[PyData.canLayAll0]|x::xs=>by simp[PyData.canLayAll0,PyData.canLay0,lay_ints xs]
theorem xY:∀xs:List Int,PyData.depthAll (xs.map .int)<=1|[]=>by simp[PyData.depthAll]|x::xs=>by have:=xY xs;simp[PyData.depthAll,PyData.depth];omega
def C3(xs:List Int):SeqAt.shaped (.list (xs.map .int))=true:=by have:=xY xs;unfold SeqAt.shaped;erw[PyData.canLay0,PyData.depth,lay_ints,Zd];calc Xm (by lia)
def t_(xs:List Int):SeqAt.shaped (.tuple (xs.map .int))=true:=by have:=xY xs;unfold SeqAt.shaped;erw[PyData.canLay0,PyData.depth,lay_ints,Zd];calc Xm (by lia)
theorem nr{K:PySem.W.Frag}:∀xs:List Int,m7 K H (xs.map V.int) (xs.map .int)|[]=>.nil|x::xs=>.cons (.int x) (nr xs)
def ML{K:PySem.W.Frag}{xs ys:List Int}(ae:au K H a (xs.map V.int))(ag:au K H b (ys.map V.int))(q:Q (.aG (decide (xs=ys))) H):tG K (.ref a) (.ref b) H Q:=by refine{.list (xs.map .int),.list (ys.map .int),.lst ae (nr xs),.lst ag (nr ys),C3 xs,C3 ys,?_};simp[PyData.eqv,t9];calc q
def MM{K:PySem.W.Frag}{xs ys:List Int}(ae:bJ K H a (xs.map V.int))(ag:bJ K H b (ys.map V.int))(q:Q (.aG (decide (xs=ys))) H):tG K (.ref a) (.ref b) H Q:=by refine{.tuple (xs.map .int),.tuple (ys.map .int),.tup ae (nr xs),.tup ag (nr ys),t_ xs,t_ ys,?_};simp[PyData.eqv,t9];calc q
def C4{K:PySem.W.Frag}{xs ys:List Int}(ae:bJ K H a (xs.map V.int))(ag:bJ K H b (ys.map V.int))(q:Q (.aG (!decide (xs=ys))) H):xa K (.ref a) (.ref b) H Q:=by refine{.tuple (xs.map .int),.tuple (ys.map .int),.tup ae (nr xs),.tup ag (nr ys),t_ xs,t_ ys,?_};simp[PyData.eqv,t9];calc q
def ua(r:Addr->List V->am->aE->Prop)(to:TE)(t:ci):TE:=λaa H Q=>to aa H λx H1=>match x with|.ref l=>(∃xs,H1 l=some (.lst xs))/\t aa H1 λys ai=>r l ys ai Q|_=>False
def C5(r:Addr->List V->am->aE->Prop)(to:TE):TE:=λaa H Q=>to aa H λx H1=>match x with|.ref l=>r l [] H1 Q|_=>False
def MN(l:Addr)(y:V):am->aE->Prop:=λH Q=>∃xs,H l=some (.lst xs)/\xs.length<sizeLine/\Q .bb (upd H l (.lst (xs++[y])))
def ub(l:Addr)(vs:List V):am->aE->Prop:=λH Q=>match vs with|[y]=>MN l y H Q|_=>False
def MO(K:PySem.W.Frag)(l b:Addr):am->aE->Prop:=λH Q=>∃xs zs,H l=some (.lst xs)/\(H b=some (.lst zs)\/bJ K H b zs)/\xs.length+zs.length<=sizeLine/\Q .bb (upd H l (.lst (xs++zs)))
def uc(K:PySem.W.Frag)(l:Addr)(vs:List V):am->aE->Prop:=λH Q=>match vs with|[.ref b]=>MO K l b H Q|_=>False
def MP(l:Addr):am->aE->Prop:=λH Q=>∃xs y,H l=some (.lst xs)/\xs[xs.length-1]? =some y/\Q y (upd H l (.lst xs.dropLast))
def ud(l:Addr)(vs:List V):am->aE->Prop:=λH Q=>match vs with|[]=>MP l H Q|_=>False
section
variable {X:aR}{K:PySem.W.Frag}{o e:Expr}{ay:List Expr}{to:TE}{t:ci}{name:Str}{apos cz:Pos}{id:String}{r:Addr->List V->am->aE->Prop}
def C6(slot:Slot "list" name id)(f:typeOf (.builtin id)=pure (.type "method_descriptor"))(k:hb X id (λx vs H Q=>∃l,x=.ref l/\r l vs H Q))(m:aH X o to)(n:dF X (e::ay) t)
  (b:attributeBase o name X.env (eval o X.env)=eval o X.env)
  (d:((backTo cz (starEach (e::ay) X.env)).all (λx=> !x.1)&&(backToKw cz (keywordEach [] X.env)).all (λx=>x.1.isSome)
   &&decide ((e::ay).length+([]:List Keyword).length+(if([]:List Keyword).isEmpty then 0 else 1)<30))=true)
  (c:(apos.endLine==cz.line)=true) (hs:starEach (e::ay) X.env=(false,eval e X.env)::starEach ay X.env) (a:(backTo cz (starEach ay X.env)).any (·.1)=false):
  aH X (.Call (.Attribute o name apos) (e::ay) [] cz) (ua r to t):=by
 intro pins s aa H Q I h;refine wpAny_Call_method_late b d c rfl (aW (m pins s aa H _ I h) λv s1 zz=>?_);let(x,H1,aA,g,i):=zz;cases x with
 |ref l=>let(z,p):=i;let(xs,hl):=z;let(ae,ag):=w9 (T:= "list") aA g (.inl {rfl,xs,au.of hl});refine{"list",id,aau,slot,f,ae,ag,?_};have j:=n cz pins s1 aa H1 _ aA p;rw[hs]at j⊢;refine Zj (by grind) (aab ?_);exact aW j λus q zz=>by let(vs,ai,u,w,y):=zz;calc k pins q aa ai _ vs v us Q u g w ⟨l,rfl,y⟩
 |_=>calc i.elim
def MQ:hb X "list.append" (λx vs H Q=>∃l,x=.ref l/\ub l vs H Q):=by intro pins s aa H x vs v us Q I a b h;let(l,rfl,h):=h;unfold ub at h;split at h;let(xs,ae,ag,q):=h;calc J4 pins s aa H _ _ v us Q I a b {l,xs,_,rfl,rfl,ae,ag,q};nofun
def MR(d:X.K=K):hb X "list.extend" (λx vs H Q=>∃l,x=.ref l/\uc K l vs H Q):=by
 subst d;intro pins s aa H x vs v us Q I a b h;let(l,rfl,h):=h;unfold uc at h;split at h;let(xs,zs,ae,ag,c,q):=h;rcases ag with ag|ag;calc J6 pins s aa H _ _ v us Q I a b {l,_,xs,zs,rfl,rfl,ae,ag,c,q};calc Mm pins s aa H _ _ v us Q I a b {l,_,xs,zs,rfl,rfl,ae,ag,c,q};nofun
def MS:hb X "list.pop" (λx vs H Q=>∃l,x=.ref l/\ud l vs H Q):=by intro pins s aa H x vs v us Q I a b h;let(l,rfl,h):=h;unfold ud at h;split at h;let(xs,y,ae,ag,q):=h;calc J8 pins s aa H _ _ v us Q I a b {l,xs,_,rfl,rfl,ae,ag,q};nofun
def gS(f:aH X o to)(g:dF X (e::ay) t)
  (b:attributeBase o "append" X.env (eval o X.env)=eval o X.env:=by rfl)
  (d:((backTo cz (starEach (e::ay) X.env)).all (λx=> !x.1)&&(backToKw cz (keywordEach [] X.env)).all (λx=>x.1.isSome)
   &&decide ((e::ay).length+([]:List Keyword).length+(if([]:List Keyword).isEmpty then 0 else 1)<30))=true:=by rfl)
  (c:(apos.endLine==cz.line)=true:=by rfl) (hs:starEach (e::ay) X.env=(false,eval e X.env)::starEach ay X.env:=by rfl) (a:(backTo cz (starEach ay X.env)).any (·.1)=false:=by rfl):
  aH X (.Call (.Attribute o "append" apos) (e::ay) [] cz) (ua ub to t):=C6 F.slot_list_append F.type_list_append MQ f g b d c hs a
def ue(f:X.K=K)(g:aH X o to)(h:dF X (e::ay) t)
  (b:attributeBase o "extend" X.env (eval o X.env)=eval o X.env:=by rfl)
  (d:((backTo cz (starEach (e::ay) X.env)).all (λx=> !x.1)&&(backToKw cz (keywordEach [] X.env)).all (λx=>x.1.isSome)
   &&decide ((e::ay).length+([]:List Keyword).length+(if([]:List Keyword).isEmpty then 0 else 1)<30))=true:=by rfl)
  (c:(apos.endLine==cz.line)=true:=by rfl) (hs:starEach (e::ay) X.env=(false,eval e X.env)::starEach ay X.env:=by rfl) (a:(backTo cz (starEach ay X.env)).any (·.1)=false:=by rfl):
  aH X (.Call (.Attribute o "extend" apos) (e::ay) [] cz) (ua (uc K) to t):=C6 aaG F.type_list_extend (MR f) g h b d c hs a
def C7(e:aH X o to)(a:attributeBase o "pop" X.env (eval o X.env)=eval o X.env:=by rfl)(b:(apos.endLine==cz.line)=true:=by rfl):
  aH X (.Call (.Attribute o "pop" apos) [] [] cz) (C5 ud to):=by
 intro pins s aa H Q I h;refine wpAny_Call_method0_late a b (aW (e pins s aa H _ I h) λv s1 zz=>?_);let(x,H1,aA,d,c):=zz;cases x with
 |ref l=>have⟨xs,y,hl,_,_⟩:=c;let(ae,ag):=w9 (T:= "list") aA d (.inl {rfl,xs,au.of hl});calc{"list","list.pop",aau,F.slot_list_pop,F.type_list_pop,ae,ag,Zj rfl (PySem.evalArgs_none (MS pins s1 aa H1 _ [] v [] Q aA d .nil ⟨l,rfl,c⟩))}
 |_=>nofun
end
def c2(s:aw H aj):aw (del H D) (del aj D):=λb o q=>by
 have a:b≠D:=λe=>by erw[e,fG]at q;cases q
 rw[bf a]at q⊢;calc s b o q
def bo:aw (del H D) H:=λb o q=>c_ q
def gw(h:H D=none)(s:aw H aj):aw H (del aj D):=λb o q=>by rw[bf (cT q h)];calc s b o q
def C8(C:Addr)(n:Nat)(a:List V->List (Str×V)):bE:=λvs H Q _=>∃p ao us,vs=.ref p::us/\us.length=n/\H p=some (.ins C ao [])/\Q .bb (upd H p (.ins C ao (a us)))
def C9(C:Addr)(n:Nat)(a:List V->List (Str×V))(t:ci):TE:=λaa H Q=>t aa H λvs H1=>vs.length=n/\∀x ao ai,H1 x=none->aw H1 ai->ai x=some (.ins C ao (a vs))->Q (.ref x) ai
section
variable {X:aR}{x:Str}{p pos:Pos}{C:Addr}{CX:eD}{k:Nat}{ps:List Str}{sp:bE}{E:b8}{e:Expr}{ay:List Expr}{t:ci}
def MT(c:lP X.prog X.w X.K X.mg X.base dB k x C ps (C8 C n b))(d:b2 (k+1) X.A)(g:d2 X x)(i:dF X (e::ay) t)
  (hd:(x==("__debug__":Str))=false:=by decide) (j:starEach (e::ay) X.env=(false,eval e X.env)::starEach ay X.env:=by rfl) (a:(backTo pos (starEach ay X.env)).any (·.1)=false:=by rfl):
  aH X (.Call (.Name x p) (e::ay) [] pos) (C9 C n b t):=by
 let(f,fd,M,F,l,m):=c;refine λpins s aa H Q I h=>Yw (lC I g l ?_ hd);refine YK I.ok.mod.kc M.cL (aW (i pos pins s aa H _ I h) λus s1⟨vs,H1,aA,r,hl,q⟩=>{aA.kIn,?_}) j a;refine tz M F d m .nil dt aA r λx ao nx nd ne=>{x,ao,vs,by simp,hl,aO,rfl,?_};rw[gk];calc q x ao _ nx (hW (fi nd) nx) aO
def MU(c:lP X.prog X.w X.K X.mg X.base CX k x C ps sp)(b:b2 (k+1) X.A)(d:d2 X x)(g:Passes CX X E)(h:dF X (e::ay) t)
  (hd:(x==("__debug__":Str))=false:=by decide) (i:starEach (e::ay) X.env=(false,eval e X.env)::starEach ay X.env:=by rfl) (a:(backTo pos (starEach ay X.env)).any (·.1)=false:=by rfl):
  aH X (.Call (.Name x p) (e::ay) [] pos) (rg C sp [] E t):=by
 let(f,fd,M,F,j,l):=c;calc JD M F b d j l .nil g h hd i a
end
def C_(us:List V):List (Str×V):=[("tokens",us.headD .bb),("taken",.int 0)]
abbrev kK(J:fh)(g:eM)(bi:cy)(D:Ends)(aa:L2.St)(H:am):Prop:=∃W:Nat->Nat->L2.St->am->Prop,(∃m,W 0 m aa H)/\∀i m aa H,W i m aa H->
   (J.stop i H/\D.nx aa H)\/(J.go i H/\∃N:L2.St->am->Prop,(∀σ' aj,N σ' aj->∃b,b<m/\W (i+1) b σ' aj)/\∀x aj,J.hL i H x aj->g x aa aj λa ai=>bi {D with nx:=N,ct:=N,bk:=D.nx} a ai)
section
variable {K:PySem.W.Frag}{bi:cy}{D:Ends}{aa:L2.St}{H:am}{a b:Addr}{xs ys:List V}
def jG(Pv:Nat->L2.St->am->Prop)(b:∀i aa H,Pv i aa H->au K H a xs)(d:Pv 0 aa H)(hs:∀(i:Nat)aa H x,xs[i]? =some x->Pv i aa H->g x aa H λc ai=>bi {D with nx:=Pv (i+1),ct:=Pv (i+1),bk:=D.nx} c ai)(hd:∀aa H,Pv xs.length aa H->D.nx aa H):kK (oO K a) g bi D aa H:=by refine rB xs.length Pv d (λi aa H af p=>?_) (λaa H p=>{xs,b _ _ _ p,W2 _}) (λi aa H x aj af p y=>?_) hd;calc{xs,xs[i],b _ _ _ p,WK af};let(rfl,y):=y;calc hs i aa aj x (y xs (b _ _ _ p)) p
def pa(Pv:Nat->L2.St->am->Prop)(b:∀i aa H,Pv i aa H->au K H a xs)(c:Pv 0 aa H)(hs:∀(i:Nat)aa H x aj,xs[i]? =some x->Pv i aa H->aw H aj->bi {D with nx:=Pv (i+1),ct:=Pv (i+1),bk:=D.nx} ((aa.set p (some (.int (i:Int)))).set q (some x)) aj)(hd:∀aa H,Pv xs.length aa H->D.nx aa H):
  kK (tN K a) (i3 K 2 (fP (dg p) (fP (dg q) ju))) bi D aa H:=by
 refine rB xs.length Pv c (λi aa H af p=>?_) (λaa H p=>{xs,b _ _ _ p,W2 _}) (λi aa H x aj af ah y=>?_) hd;calc{xs,xs[i],b _ _ _ p,WK af};let(T,z,rfl,d,rfl,y):=y;calc{T,_,rfl,bJ.of aO,rfl,_,_,rfl,_,_,rfl,rfl,hs i aa H z _ (y xs (b _ _ _ ah)) ah (fi d)}
def uf(Pv:Nat->L2.St->am->Prop)(hl:xs.length=ys.length)(c:∀i aa H,Pv i aa H->au K H a xs/\au K H b ys)(d:Pv 0 aa H)(hs:∀(i:Nat)aa H x y aj,xs[i]? =some x->ys[i]? =some y->Pv i aa H->aw H aj->bi {D with nx:=Pv (i+1),ct:=Pv (i+1),bk:=D.nx} ((aa.set p (some x)).set q (some y)) aj)(hd:∀aa H,Pv xs.length aa H->D.nx aa H):
  kK (tO K a b) (i3 K 2 (fP (dg p) (fP (dg q) ju))) bi D aa H:=by
 refine rB xs.length Pv d (λi aa H af p=>?_) (λaa H p=>{xs,ys,(c _ _ _ p).1,(c _ _ _ p).2,.inl (W2 _)}) (λi aa H x aj af ah y=>?_) hd;calc{xs,ys,xs[i],ys[i]'(by nofun),(c _ _ _ p).1,(c _ _ _ p).2,WK af,WK _};let(T,u,v,rfl,e,rfl,f,g):=y;calc{T,_,rfl,bJ.of aO,rfl,_,_,rfl,_,_,rfl,rfl,hs i aa H u v _ (f xs (c _ _ _ ah).1) (g ys (c _ _ _ ah).2) ah (fi e)}
def ug(Pv:Nat->L2.St->am->Prop)(a:Pv 0 aa H)(hs:∀(i:Nat)aa H,i<n->Pv i aa H->bi {D with nx:=Pv (i+1),ct:=Pv (i+1),bk:=D.nx} (aa.set p (some (.int (i:Int)))) H)(hd:∀aa H,Pv n aa H->D.nx aa H):
  kK (oP 0 n) (dg p) bi D aa H:=by
 refine rB n Pv a (λi aa H af p=>af) (λaa H p=>W2 _) (λi aa H x aj af ah y=>?_) hd;let(rfl,rfl):=y;rw[abT];calc hs i aa aj af ah
end
abbrev xZ(J:fh)(g:eM)(te:TE)(vs:List Nat)(aa:L2.St)(H1:am)(Q:aE):Prop:=∀D,H1 D=none->∃W:Nat->Nat->am->Prop,(∃m,W 0 m (upd H1 D (.lst [])))/\∀i m H,W i m H->
   (J.stop i H/\Q (.ref D) H)\/(J.go i H/\∃c:am->Prop,(∀aj,c aj->∃d,d<m/\W (i+1) d aj)/\∀x aj,J.hL i H x aj->g x (wipe aa vs) aj λa ai=>wipe a vs=wipe aa vs/\kq a ai λb e=>
    if b=true then gv te a e λy f=>∃acc,f D=some (.lst acc)/\acc.length<sizeLine/\c (upd f D (.lst (acc++[y])))else c e)
section
variable {α:Type}{K:PySem.W.Frag}{te:TE}{aa:L2.St}{H:am}{Q:aE}{R:Re α}{a b:Addr}{xs ys:List V}
def MV(e:c7 R)zs(hsz:zs.length<=sizeLine)
  (a:∀(j:Nat)z G(b:aE),zs[j]? =some z->aw H G->(∀v c,aw G c->R c v z->b v c)->te (aa.set i (some (.int (j:Int)))) G b)
  (done:∀D ai us,H D=none->aw H ai->ai D=some (.lst us)->bw (R ai) us zs->Q (.ref D) ai):xZ (oP 0 zs.length) (dg i) te [i] aa H Q:=by
 refine t7 e zs (λj _=>aa.set i (some (.int j))) hsz (λj G d s=>d) (λG s=>W2 _) (λj G x c d s y=>?_) (λj z G aj b hz s s' q=>a j z G b hz s q) done;let(rfl,rfl):=y;refine{aw.refl _,?_,λf g=>?_};show(aa.set i _).set i none=aa.set i none;rw[XU];show f ((aa.set i none).set i (some (.int (0+j)))) _;rw[XU,abT];calc g
def MW {i:Nat}{t:Str} (g:c7 R) (zs:List α) (hsz:zs.length<=sizeLine) (hl:t.cps.size=zs.length)
  (a:∀(j:Nat) c z G (b:aE),t.cps[j]? =some c->zs[j]? =some z->aw H G->(∀v d,aw G d->R d v z->b v d)->te (aa.set i (some (.str {#[c]}))) G b)
  (done:∀D ai us,H D=none->aw H ai->ai D=some (.lst us)->bw (R ai) us zs->Q (.ref D) ai):xZ (xr t) (dg i) te [i] aa H Q:=by
 refine t7 g zs (λj _=>aa.set i (t.cps[j]?.map λc=>V.str {#[c]})) hsz (λj G e s=>by show j<t.cps.size;nofun) (λG s=>by show t.cps.size<=zs.length;nofun) (λj G x d e s y=>?_) (λj z G aj b hz s s' q=>?_) done
 ·let(rfl,c,hc,rfl):=y
  refine{aw.refl _,?_,λh f=>?_}
  ·show(aa.set i _).set i none=aa.set i none
   rw[XU]
  ·show h ((aa.set i none).set i (some (.str {#[c]}))) _
   rw[XU];erw[hc,X2]at f;exact f
 ·have y:=(WH.mp hz).1;rw[<-hl]at y;rw[Array.getElem?_eq_getElem y];calc a j _ z G b (Array.getElem?_eq_getElem y) hz s q
def uh(a:i≠j)(u v):wipe ((aa.set i u).set j v) [i,j]=wipe aa [i,j]:=by show(((aa.set i u).set j v).set j none).set i none=(aa.set j none).set i none;rw[XU,aag _ _ a,XU]
def MX(b:i≠j)(ps:List (V×V))(m:c7 R)(zs:List α)(hsz:zs.length<=sizeLine)(k:au K H a xs)(hl:xs.length=zs.length)(c:bw (λv(p:V×V)=>∃t,v=.ref t/\bJ K H t [p.1,p.2]) xs ps)
  (d:∀(n:Nat)p z G(f:aE),ps[n]? =some p->zs[n]? =some z->aw H G->(∀v g,aw G g->R g v z->f v g)->te ((aa.set i (some p.1)).set j (some p.2)) G f)
  (done:∀D ai us,H D=none->aw H ai->ai D=some (.lst us)->bw (R ai) us zs->Q (.ref D) ai):xZ (oO K a) (i3 K 2 (fP (dg i) (fP (dg j) ju))) te [i,j] aa H Q:=by
 refine t7 m zs (λn _=>(aa.set i (ps[n]?.map (·.1))).set j (ps[n]?.map (·.2))) hsz (λn G o s=>?_) (λG s=>{xs,s.seq k,by nofun}) (λn G x g o s y=>?_) (λn z G aj f hz s s' q=>?_) done;calc{xs,xs[n]'(by nofun),s.seq k,WK _};let(e,y):=y;subst e;refine{aw.refl _,uh b _ _,λr l=>?_};let(p,h,t,rfl,u):=c.get' (y xs (s.seq k));refine{t,_,rfl,d9 s u,rfl,_,_,rfl,_,_,rfl,rfl,?_};show r ((((aa.set j none).set i none).set i (some p.1)).set j (some p.2)) _;erw[h,X2]at l;rw[XU,aag _ _ (XE b),XU];calc l;obtain⟨p,h⟩:∃p,ps[n]? =some p:={_,WK (by have:=(WH.mp hz).1;have:=c.1;nofun)};erw[h,X2];calc d n p z G f h hz s q
end
section
variable {K:PySem.W.Frag}{g:eM}{bi:cy}{D:Ends}{aa:L2.St}{H:am}
def iw(h:∀b:aE,(∀a xs H1,au K H1 a xs->kK (oO K a) g bi D aa H1->b (.ref a) H1)->bT aa H b):oQ (lE K bT) g bi D aa H:=h _ λa xs H1 c d=>{a,rfl,⟨xs,c⟩,d}
def ui(h:∀b:List V->am->Prop,(∀a xs H1,au K H1 a xs->kK (tN K a) g bi D aa H1->b [.ref a] H1)->aP aa H b):oQ (xt K aP) g bi D aa H:=h _ λa xs H1 c d=>⟨a,xs,rfl,c,d⟩
def uj(h:∀c:List V->am->Prop,(∀a b xs ys H1,au K H1 a xs->au K H1 b ys->kK (tO K a b) g bi D aa H1->c [.ref a,.ref b] H1)->aP aa H c):oQ (xv K aP) g bi D aa H:=h _ λa b xs ys H1 d e f=>⟨a,b,xs,ys,rfl,d,e,f⟩
def uk(h:∀a:List V->am->Prop,(∀(n:Nat)H1,n<2^62->kK (oP 0 n) g bi D aa H1->a [.int (n:Int)] H1)->aP aa H a):oQ (tv aP) g bi D aa H:=h _ λn H1 c b=>{n,rfl,by nofun,by lia,by rwa[XM]}
end
section
variable {α:Type}{K:PySem.W.Frag}{te:TE}{aa:L2.St}{H:am}{Q:aE}{R:Re α}
def C'(d:c7 R)zs(hsz:zs.length<=sizeLine)
  (h:∀b:List V->am->Prop,(∀H1,(∀(j:Nat)z G(c:aE),zs[j]? =some z->aw H1 G->(∀v a,aw G a->R a v z->c v a)->te (aa.set i (some (.int (j:Int)))) G c)->
   (∀D ai us,H1 D=none->aw H1 ai->ai D=some (.lst us)->bw (R ai) us zs->Q (.ref D) ai)->b [.int (zs.length:Int)] H1)->aP aa H b):hR (tv aP) (dg i) kq (gv te) [i] aa H Q:=by
 have hz:zs.length<=16777216:=by rwa[WJ]at hsz
 exact h _ λH1 ae ag=>{zs.length,rfl,by nofun,by lia,by calc MV d zs hsz ae ag}
def MY(e:c7 R)zs(hsz:zs.length<=sizeLine)
  (h:∀b:aE,(∀t H1,t.cps.size=zs.length->(∀(j:Nat)c z G(d:aE),t.cps[j]? =some c->zs[j]? =some z->aw H1 G->(∀v a,aw G a->R a v z->d v a)->te (aa.set i (some (.str {#[c]}))) G d)->
   (∀D ai us,H1 D=none->aw H1 ai->ai D=some (.lst us)->bw (R ai) us zs->Q (.ref D) ai)->b (.str t) H1)->bT aa H b):hR (B4 bT) (dg i) kq (gv te) [i] aa H Q:=
 h _ λt H1 hl ae ag=>{t,rfl,MW e zs hsz hl ae ag}
def x1(b:i≠j)(k:c7 R)zs(hsz:zs.length<=sizeLine)
  (h:∀e:aE,(∀a xs(ps:List (V×V))H1,au K H1 a xs->xs.length=zs.length->bw (λv(p:V×V)=>∃t,v=.ref t/\bJ K H1 t [p.1,p.2]) xs ps->
   (∀(n:Nat)p z G(f:aE),ps[n]? =some p->zs[n]? =some z->aw H1 G->(∀v c,aw G c->R c v z->f v c)->te ((aa.set i (some p.1)).set j (some p.2)) G f)->
   (∀D ai us,H1 D=none->aw H1 ai->ai D=some (.lst us)->bw (R ai) us zs->Q (.ref D) ai)->e (.ref a) H1)->bT aa H e):hR (lE K bT) (i3 K 2 (fP (dg i) (fP (dg j) ju))) kq (gv te) [i,j] aa H Q:=
 h _ λa xs ps H1 g hl d ae ag=>{a,rfl,⟨xs,g⟩,MX b ps k zs hsz g hl d ae ag}
end
section
variable {X:aR}{K:PySem.W.Frag}
def MZ(a:X.K=K)(b:d2 X "reversed")(c:X.mg "reversed"=none)(d:dF X [e] aP)(hs:starEach [e] X.env=[(false,eval e X.env)]:=by rfl):hM X bK (.Call (.Name "reversed" p) [e] [] pos) (xq K aP):=by subst a;calc K3 b c d hs
def M0(a:X.K=K):dT X (.builtin "sorted") (Bp K):=by subst a;calc Ke
def M1(K:PySem.W.Frag):List V->am->aE->Prop:=λxs H Q=>∃p ys,xs=[.ref p]/\au K H p ys/\∀l,H l=none->Q (.ref l) (upd H l (.tup ys))
def M3(a:X.K=K):dT X (.type "tuple") (M1 K):=by subst a;intro pins s aa H vs us Q I r h;let(p,ys,e,b,q):=h;calc JZ pins s aa H vs us Q I r {p,ys,e,.inl ⟨b,q⟩}
def Db(K:PySem.W.Frag):V->List V->am->aE->Prop:=λx xs H Q=>match x,xs with|.ref a,[y]=>∃(ns:List Int)(k:Int)(j:Nat),y=.int k/\au K H a (ns.map V.int)/\ns[j]? =some k/\(∀m,m<j->ns[m]? ≠some k)/\Q (.int j) H|_,_=>False
def M4(c:X.K=K):hb X "list.index" (Db K):=by
 subst c;intro pins s aa H x xs v us Q I d a h;unfold Db at h;split at h;let(ns,k,j,rfl,f,g,l,q):=h;refine Kg pins s aa H _ _ v us Q I d a {_,ns.map V.int,.int k,j,.int k,rfl,rfl,f,rfl,?_,?_,?_,?_,q};rw[XD];intro z hz;let(i,_,e):=WT.mp hz;rw[<-e];rfl;nofun;show decide (k=k)=true;calc Xm rfl;intro m z b hz;rw[WG]at hz;cases e:ns[m]? with
 |none=>rw[e]at hz;cases hz
 |some i=>rw[e]at hz;cases hz;show decide (i=k)=false;rw[aaY];intro n;exact l m b (by rw[e,n])
 nofun
def tD(K:PySem.W.Frag):List V->am->aE->Prop:=λxs H Q=>∃(p:Addr)(ns:List Int),xs=[.ref p]/\au K H p (ns.map V.int)/\ns.length+1<4096/\∀l S n,H l=none->(n=ns.length↔ns.Nodup)->n<=ns.length->Q (.ref l) (upd H l (.set S n))
theorem x2:∀(l acc:List Int),acc.Nodup->((l.foldl step_dedup acc).length<=acc.length+l.length/\((l.foldl step_dedup acc).length=acc.length+l.length↔(l.Nodup/\∀x∈l,x∉acc)))
 |[],acc,h=>by simp
 |x::r,acc,h=>by
  rw[Yk];by_cases c:x∈acc;have e:step_dedup acc x=acc:=by unfold step_dedup;rw[WO (by simpa using c)]
  let(d,bp):=x2 r acc h;rw[e,WL];exact{by lia,{λz=>by lia,λz=>absurd c (z.2 x (WD ..))}};have e:step_dedup acc x=acc++[x]:=by unfold step_dedup;rw[WM (by simpa using c)]
  have f:(acc++[x]).Nodup:=by rw[Yr];exact{h,by simp,λa g b i e=>c (by rw[WQ.mp i]at e;rw[<-e];calc g)}
  let(d,bp):=x2 r (acc++[x]) f;rw[e,WL];simp only[WI,XA]at d bp;refine{by lia,{λz=>?_,λz=>?_}};let(a,b):=bp.mp (by lia);refine{W3.mpr {λm=>b x m (WZ _ (WQ.mpr rfl)),a},λy aN=>?_};rcases WW.mp aN with e|aN
  rw[e];calc c;calc λm=>b y aN (Xa _ m);let(a,b):=W3.mp z.1;have:=bp.mpr {b,λy aN m=>by
   rcases Xc.mp m with m|m
   calc z.2 y (WE _ aN) m;calc a (by nofun)}
  lia
def M5 (f:X.K=K) (hc:X.calm=true):dT X (.type "set") (tD K):=by
 subst f;intro pins s aa H vs us Q I r h;let(p,ns,rfl,hs,g,q):=h;let(its,j,hl,_):=I.list hs;rw[a0.oX r];have af:=j.ints;have c:=af.length;have k:(List.range its.toArray.size).map (λi=>ns.getD i 0)=ns:=by
  apply XS
  ·nofun
  ·nofun
 refine call_set_list (I.ok.hd hc) hl.isList af (by erw[W_];unfold scanBound;nofun) λh' tk l cL=>?_;have d:=x2 ns [] Yd;have e:(firstMet (λi=>ns.getD i 0) its.toArray.size).length=(ns.foldl step_dedup []).length:=by
  unfold firstMet;rw[k]
 refine{.ref s.heap.objs.size,_,I.laid (a:=s.heap.objs.size) (o:=.set _ _) (t':=tk) (λb u e=>cL b u (W' e) e) (W2 _) l,rfl,q _ _ _ (I.aS.fresh (W2 _)) ?_ ?_}
 ·rw[e]
  have:=d.2;erw[Yc,abo,Z8,not_false_eq_true,implies_true,and_true]at this;exact this
 ·rw[e]
  have:=d.1;simpa using this
def M6:List V->am->aE->Prop:=λxs H Q=>∃p S n,xs=[.ref p]/\H p=some (.set S n)/\Q (.int n) H
def M7:dT X (.builtin "len") M6:=by intro pins s aa H vs us Q I r h;let(p,S,n,rfl,hs,q):=h;rw[a0.oX r];let(o,ay,g,t,c,a,hd,_,_,d,f,e):=(show s.heap.SetOf (intKind X.prog X.w) p S n from I.aS p _ hs);subst e;calc call_len_set c a hd f (by unfold scanBound at d;lia) {.int ay.size,H,I.kept λb o e=>e,{_,rfl},q}
end
section
variable {X:aR}{K:PySem.W.Frag}{x m f:Str}{p pos apos:Pos}{k n:Nat}{ps:List Str}{sp:bE}{e o v:Expr}{ay:List Expr}{t:ci}{te aP bi bT:TE}{C:Addr}{CX:eD}{E:b8}
def f6(c:hi X.prog X.w X.K X.mg X.base CX k x ps sp)(b:b2 n X.A)(d:Passes CX X E)(f:dF X (e::ay) t)(h:k<=n:=by decide)(g:d2 X x:=by rfl)(hd:(x==("__debug__":Str))=false:=by decide)(i:starEach (e::ay) X.env=(false,eval e X.env)::starEach ay X.env:=by rfl)(a:(backTo pos (starEach ay X.env)).any (·.1)=false:=by rfl):aH X (.Call (.Name x p) (e::ay) [] pos) (re sp [] E t):=CH c (b.mono h) g d f hd i a
def a5(c:hi X.prog X.w X.K X.mg X.base dB k x ps sp)(b:b2 n X.A)(d:dF X (e::ay) t)(h:k<=n:=by decide)(f:d2 X x:=by rfl)(hd:(x==("__debug__":Str))=false:=by decide)(g:starEach (e::ay) X.env=(false,eval e X.env)::starEach ay X.env:=by rfl)(a:(backTo pos (starEach ay X.env)).any (·.1)=false:=by rfl):aH X (.Call (.Name x p) (e::ay) [] pos) (re sp [] ry t):=CH c (b.mono h) f dt d hd g a
def aC K(a:aH X e aP)(b:X.K=K:=by rfl)(c:attributeBase e f X.env (eval e X.env)=eval e X.env:=by rfl):aH X (.Attribute e f pos) (xU K aP f):=MC b a c
def cN K(a:aH X o aP)(b:aH X v bi)(c:X.K=K:=by rfl)(hs:swapsWith v (some (.Attribute o f apos)) pos.line X.env=pure false:=by rfl):fz X (.Assign [.Attribute o f apos] v pos) (xV K aP bi f):=MD c a b hs
def aV i(nd:X.N.Nodup)(a:aH X e te)(ae:X.N[i]? =some x:=by rfl)(ag:L2.Loc X.env.scope x:=by calc Or.inl rfl)(b:swapsWith e (some (.Name x apos)) pos.line X.env=pure false:=by rfl)(c:X.fn x=true\/List.lookup x X.env.scope.names=some NameKind.local:=by first|exact Or.inl rfl|exact Or.inr rfl):fz X (.Assign [.Name x apos] e pos) (q7 te (dg i)):=fg nd ae ag a b c
def cG i(nd:X.N.Nodup)(ae:X.N[i]? =some x:=by rfl)(ag:L2.Loc X.env.scope x:=by calc Or.inl rfl)(a:X.fn x=true\/List.lookup x X.env.scope.names=some NameKind.local:=by first|exact Or.inl rfl|exact Or.inr rfl):ik X (.Name x pos) (dg i):=wP nd ae ag a
def b3 i(nd:X.N.Nodup)(ae:X.N[i]? =some x:=by rfl)(ag:L2.Loc X.env.scope x:=by calc Or.inl rfl)(a:X.fn x=true\/List.lookup x X.env.scope.names=some NameKind.local:=by calc Or.inr rfl):ik X (.Name x pos) (dg i):=wP nd ae ag a
def aQ K(a:aH X e aP)(b:aH X v bi)(c:X.K=K:=by rfl)(d:Bl v:=by calc λ_ _=>rfl):aH X (.Subscript e v pos) (m3 (rE K) aP bi):=w8 (Mz c) a b d
def av(h:aH X e te)(hs:starEach [e] X.env=(false,eval e X.env)::starEach [] X.env:=by rfl):dF X [e] (m5 te km):=aD h i4 (hs:=hs)
def cm K(c:X.mg "len"=none)(d:aH X e te)(f:X.K=K:=by rfl)(g:d2 X "len":=by rfl)(hd:(("len":Str)==("__debug__":Str))=false:=by decide)(b:starEach [e] X.env=(false,eval e X.env)::starEach [] X.env:=by rfl)(a:(backTo pos (starEach [] X.env)).any (·.1)=false:=by rfl):aH X (.Call (.Name "len" p) [e] [] pos) (tA (rD K) (m5 te km)):=gm (MB f) g c PySem.boot_len (aD d i4 (hs:=b)) (by decide) hd b a
def bG(c:c6 X.mg x w)(a:d2 X x:=by rfl)(hd:(x==("__debug__":Str))=false:=by decide):aH X (.Name x p) (iY w):=Mf c a hd
def cH K(h:aH X e bT)(a:X.K=K:=by rfl):hM X bK e (lE K bT):=ME a h
end
section
variable {P:Program}{w:World}{K:PySem.W.Frag}{mg:Str->Option Value}{base:Heap}{x m qual:Str}{st:Stmt}{ps:List Str}{k:Nat}{sp:bE}{C gt:Addr}
abbrev ul(P:Program)(w:World)(K:PySem.W.Frag)(mg:Str->Option Value)(base:Heap)(N:List Str)(x:Str)(st:Stmt)(k:Nat)(t:cy):Prop:=∀{f:Addr}{a_:Value}{A:Around}{outer:List Env}{s:Shared}{H:am}{E:b8},b2 k (A.deeper (envOfC x (bL st) s.heap.objs.size f a_))->N.Nodup->(A.deeper (envOfC x (bL st) s.heap.objs.size f a_)).units+1<cLine->(A.deeper (envOfC x (bL st) s.heap.objs.size f a_)).units+64<cLine->eo (ep dB P w K mg base N x (bL st) f a_ A outer s H E).hJ (eO st) t
abbrev um(N:List Str)(sp:bE)(t:cy):Prop:=∀H vs Q E,sp vs H Q E->t {nx:=λ_ aj=>Q .bb aj,rt:=Q} (start N vs) H
abbrev Dc(P:Program)(w:World)(K:PySem.W.Frag)(mg:Str->Option Value)(base:Heap)(gt:Addr)(N:List Str)(x:Str)(st:Stmt)(k:Nat)(sp:bE):Prop:=∀{f:Addr}{a_:Value}{A:Around}{outer:List Env}{s:Shared}H vs Q E,b2 k (A.deeper (envOfC x (bL st) s.heap.objs.size f a_))->N.Nodup->(A.deeper (envOfC x (bL st) s.heap.objs.size f a_)).units+1<cLine->(A.deeper (envOfC x (bL st) s.heap.objs.size f a_)).units+64<cLine->
 Out (ep (eQ P w gt) P w K mg base N x (bL st) f a_ A outer s H E) gt E->Passes (eQ P w gt) (ep (eQ P w gt) P w K mg base N x (bL st) f a_ A outer s H E) E->PassesOwn (model P w) (ep (eQ P w gt) P w K mg base N x (bL st) f a_ A outer s H E).A (ep (eQ P w gt) P w K mg base N x (bL st) f a_ A outer s H E).env (ep (eQ P w gt) P w K mg base N x (bL st) f a_ A outer s H E).xe->sp vs H Q E->
 ∃t,eo (ep (eQ P w gt) P w K mg base N x (bL st) f a_ A outer s H E) (eO st) t/\t {nx:=λ_ aj=>Q .bb aj,rt:=Q} (start N vs) H
def d0 N(D:a7 K mg x ps st)(d:ul P w K mg base N x st k t)(b:um N sp t)(S:fA N ps (bL st):=by walk_at"s")(len:∀vs H Q E,sp vs H Q E->vs.length=ps.length:=by walk_at"n"):hi P w K mg base dB (k+1) x ps sp:=
 CI D S len λ_ _ _ _ _ H vs Q E a h=>{t,d a S.nd (kA a) a.units,b H vs Q E h}
def m0 N(D:MethAt K C m qual ps st)(d:ul P w K mg base N qual st k t)(b:um N sp t)(S:fA N ps (bL st):=by walk_at"s")(len:∀vs H Q E,sp vs H Q E->vs.length=ps.length:=by walk_at"n"):kH P w K mg base dB (k+1) C m ps sp:=
 CZ D S len λ_ _ _ _ _ H vs Q E a h=>{t,d a S.nd (kA a) a.units,b H vs Q E h}
def a6 N(D:gR K mg x C qual ps st)(d:ul P w K mg base N qual st k t)(b:um N sp t)(S:fA N ps (bL st):=by walk_at"s")(len:∀vs H Q E,sp vs H Q E->vs.length=ps.length:=by walk_at"n"):lP P w K mg base dB (k+1) x C ps sp:=
 C0 D S len λ_ _ _ _ _ H vs Q E a h=>{t,d a S.nd (kA a) a.units,b H vs Q E h}
def M8 N(D:ir K x x st f fd)(d:ul P w K mg base N x st k t)(b:um N sp t)(S:fA N ps (bL st):=by walk_at"s")(len:∀vs H Q E,sp vs H Q E->vs.length=ps.length:=by walk_at"n"):dU P w K mg base dB (k+1) f fd ps sp:=
 D.ok S len λ_ _ _ _ H vs Q E a h=>{t,d a S.nd (kA a) a.units,b H vs Q E h}
abbrev x3(P:Program)(w:World)(K:PySem.W.Frag)(mg:Str->Option Value)(base:Heap)(N:List Str)(x:Str)(st:Stmt)(k:Nat)(sp:bE):Prop:=∀{f:Addr}{a_:Value}{A:Around}{outer:List Env}{s:Shared}H vs Q E,b2 k (A.deeper (envOfC x (bL st) s.heap.objs.size f a_))->N.Nodup->(A.deeper (envOfC x (bL st) s.heap.objs.size f a_)).units+1<cLine->(A.deeper (envOfC x (bL st) s.heap.objs.size f a_)).units+64<cLine->sp vs H Q E->∃t,eo (ep dB P w K mg base N x (bL st) f a_ A outer s H E).hJ (eO st) t/\t {nx:=λ_ aj=>Q .bb aj,rt:=Q} (start N vs) H
def bX N(D:a7 K mg x ps st)(b:x3 P w K mg base N x st k sp)(S:fA N ps (bL st):=by walk_at"s")(len:∀vs H Q E,sp vs H Q E->vs.length=ps.length:=by walk_at"n"):hi P w K mg base dB (k+1) x ps sp:=
 CI D S len λ_ _ _ _ _ H vs Q E a h=>b H vs Q E a S.nd (kA a) a.units h
def dc N(D:MethAt K C m qual ps st)(b:x3 P w K mg base N qual st k sp)(S:fA N ps (bL st):=by walk_at"s")(len:∀vs H Q E,sp vs H Q E->vs.length=ps.length:=by walk_at"n"):kH P w K mg base dB (k+1) C m ps sp:=
 CZ D S len λ_ _ _ _ _ H vs Q E a h=>b H vs Q E a S.nd (kA a) a.units h
def bp N(D:gR K mg x C qual ps st)(b:x3 P w K mg base N qual st k sp)(S:fA N ps (bL st):=by walk_at"s")(len:∀vs H Q E,sp vs H Q E->vs.length=ps.length:=by walk_at"n"):lP P w K mg base dB (k+1) x C ps sp:=
 C0 D S len λ_ _ _ _ _ H vs Q E a h=>b H vs Q E a S.nd (kA a) a.units h
def cB N(D:a7 K mg x ps st)(b:Dc P w K mg base gt N x st k sp)(S:fA N ps (bL st):=by walk_at"s")(len:∀vs H Q E,sp vs H Q E->vs.length=ps.length:=by walk_at"n"):hi P w K mg base (eQ P w gt) (k+1) x ps sp:=
 Mg D S len λf a_ A outer s H vs Q E a h=>b H vs Q E a S.nd (kA a) a.units tX (xK tX) CG h
def cA N(D:MethAt K C m qual ps st)(b:Dc P w K mg base gt N qual st k sp)(S:fA N ps (bL st):=by walk_at"s")(len:∀vs H Q E,sp vs H Q E->vs.length=ps.length:=by walk_at"n"):kH P w K mg base (eQ P w gt) (k+1) C m ps sp:=
 MF D S len λf a_ A outer s H vs Q E a h=>b H vs Q E a S.nd (kA a) a.units tX (xK tX) CG h
end
def x4(f:Nat->Addr):List (Int×V):=[(1,.ref (f 1)),(2,.ref (f 2)),(3,.ref (f 3)),(4,.ref (f 4)),(5,.ref (f 5)),(6,.ref (f 6)),(7,.ref (f 7)),(8,.ref (f 8)),(9,.ref (f 9)),(10,.ref (f 10)),(11,.ref (f 11)),(12,.ref (f 12)),(13,.ref (f 13))]
structure hk where
 (Dd M9 De Df x5 M_ x6 M':Addr)
 Na:FuncData
 fn:Nat->Addr
structure Dg(K:PySem.W.Frag)(mg:Str->Option Value)(ad:bC)(bx:hk):Prop where
 Dh:a7 K mg "greatest_divisor" ["one","other"] (top 2)
 Di:a7 K mg "least_multiple" ["one","other"] (top 3)
 Dj:a7 K mg "lowest" ["top","bottom"] (top 4)
 Dk:a7 K mg "lowest_over" ["top","bottom","base"] (top 5)
 Dl:a7 K mg "over_one_bottom" ["ratios"] (top 6)
 Dm:a7 K mg "product" ["one","other"] (top 7)
 Dn:a7 K mg "shared_by_three" ["short","one","other"] (top 8)
 Do:a7 K mg "written" ["ratio"] (top 9)
 Dp:a7 K mg "solved" ["equations"] (top 11)
 Dq:a7 K mg "shortened" ["equation","first","before"] (top 12)
 Dr:a7 K mg "climbed" ["stairs","bottom"] (top 13)
 Ds:gR K mg "Sums" ad.Sums "Sums.__init__" ["self","tops","bottom"] (inClass (top 15) 0)
 Dt:a7 K mg "sums_won" ["walk","unknowns","prizes"] (top 16)
 Du:a7 K mg "sum_equation" ["walk","unknowns","number","prizes"] (top 17)
 Dv:a7 K mg "chance_to_come" ["walk","origin","goal"] (top 19)
 Dw:a7 K mg "chance_back" ["walk","goal"] (top 20)
 Dx:a7 K mg "visited_without_end" ["walk","origin","goal"] (top 21)
 Dy:a7 K mg "visits_at" ["walk","origin","goal"] (top 22)
 Dz:a7 K mg "top_back" ["walk","goal"] (top 23)
 DA:a7 K mg "come_sums" ["walk","goal"] (top 24)
 DB:a7 K mg "found_come_sums" ["walk","goal"] (top 25)
 DC:a7 K mg "ways_of" ["rows"] (top 27)
 DD:a7 K mg "reached" ["rows","origin"] (top 28)
 DE:a7 K mg "may_miss" ["walk","origin","goals"] (top 30)
 DF:a7 K mg "steps_until" ["walk","origin","goals"] (top 31)
 DG:a7 K mg "found_step_sums" ["walk","goals"] (top 32)
 DH:a7 K mg "gain_without_end" ["walk","origin"] (top 33)
 DI:a7 K mg "gain_from" ["walk","origin"] (top 34)
 DJ:a7 K mg "found_gain_sums" ["walk"] (top 35)
 DK:gR K mg "Token" ad.Token "Token.__init__" ["self","kind","value","place","behind"] (inClass (top 63) 0)
 DL:a7 K mg "tokens_of" ["text"] (top 64)
 DM:a7 K mg "past_blanks" ["text","place"] (top 65)
 DN:a7 K mg "past_remark" ["text","place"] (top 66)
 DO:a7 K mg "token_at" ["text","place"] (top 67)
 DP:a7 K mg "word_at" ["text","place"] (top 68)
 DQ:a7 K mg "number_at" ["text","place"] (top 69)
 DR:a7 K mg "is_letter" ["byte"] (top 70)
 DS:a7 K mg "is_digit" ["byte"] (top 71)
 DT:gR K mg "Reader" ad.Reader "Reader.__init__" ["self","tokens"] (inClass (top 75) 0)
 DU:MethAt K ad.Reader "sees" "Reader.sees" ["self","kind"] (inClass (top 75) 1)
 DV:MethAt K ad.Reader "here" "Reader.here" ["self"] (inClass (top 75) 2)
 DW:MethAt K ad.Reader "take" "Reader.take" ["self","kind"] (inClass (top 75) 3)
 DX:gR K mg "ReadStep" ad.ReadStep "ReadStep.__init__" ["self","name","weight"] (inClass (top 76) 0)
 DY:gR K mg "ReadState" ad.ReadState "ReadState.__init__" ["self","name","worth","steps"] (inClass (top 77) 0)
 DZ:gR K mg "ReadChain" ad.ReadChain "ReadChain.__init__" ["self","title","states","start"] (inClass (top 78) 0)
 D0:a7 K mg "read_chain" ["tokens"] (top 79)
 D1:a7 K mg "read_states" ["reader"] (top 80)
 D2:a7 K mg "read_state" ["reader"] (top 81)
 D3:a7 K mg "read_worth" ["reader"] (top 82)
 D4:a7 K mg "read_steps" ["reader"] (top 83)
 D5:a7 K mg "read_step" ["reader"] (top 84)
 D6:a7 K mg "read_fraction" ["reader"] (top 85)
 D7:gR K mg "Chain" ad.Chain "Chain.__init__" ["self","title","names","worths","steps","start"] (inClass (top 87) 0)
 D8:a7 K mg "chain_of" ["text"] (top 88)
 D9:a7 K mg "numbers_of_names" ["states"] (top 89)
 D_:a7 K mg "check_names" ["found","numbers"] (top 90)
 D':a7 K mg "check_step_names" ["state","numbers"] (top 91)
 Ea:a7 K mg "numbered_steps" ["state","numbers"] (top 92)
 Eb:a7 K mg "one_form" ["chain"] (top 93)
 Ec:a7 K mg "state_line" ["chain","number"] (top 94)
 Ed:a7 K mg "written_step" ["chain","step"] (top 95)
 Ee:gR K mg "StateClass" ad.StateClass "StateClass.__init__" ["self","states","closed"] (inClass (top 97) 0)
 Ef:a7 K mg "classes_of" ["ways"] (top 98)
 Eg:a7 K mg "class_around" ["ways","number"] (top 99)
 Eh:a7 K mg "closed_states" ["classes","count"] (top 100)
 Ei:a7 K mg "period_of" ["rows","states"] (top 101)
 Ej:a7 K mg "steady_shares" ["walk","number"] (top 103)
 Ek:a7 K mg "found_steady" ["walk","states"] (top 104)
 El:a7 K mg "steady_equation" ["walk","states","goal"] (top 105)
 Em:a7 K mg "weight_between" ["walk","origin","goal"] (top 106)
 En:a7 K mg "long_shares" ["walk","origin"] (top 107)
 Eo:gR K mg "Walk" ad.Walk "Walk.__init__" ["self","chain","rows"] (inClass (top 109) 0)
 Ep:a7 K mg "walk_of" ["chain"] (top 110)
 Er:a7 K mg "row_of" ["chain","number"] (top 111)
 Es:a7 K mg "whole_shares" ["steps"] (top 112)
 Et:a7 K mg "chances" ["steps"] (top 113)
 Eu:a7 K mg "shares_after" ["walk","origin","count"] (top 114)
 Ev:a7 K mg "factor_needed" ["walk","tops"] (top 115)
 Ew:a7 K mg "one_step" ["walk","tops","factor"] (top 116)
 Ex:gR K mg "Desk" ad.Desk "Desk.__init__" ["self"] (inClass (top 128) 0)
 Ey:MethAt K ad.Desk "lacks_state" "Desk.lacks_state" ["self","number"] (inClass (top 128) 1)
 Ez:MethAt K ad.Desk "lacks_class" "Desk.lacks_class" ["self","number"] (inClass (top 128) 2)
 EA:a7 K mg "answer_load" ["desk","text"] (top 129)
 EB:a7 K mg "answer_shown" ["desk","numbers","row"] (top 130)
 EC:a7 K mg "answer_sizes" ["desk","numbers","row"] (top 131)
 ED:a7 K mg "answer_state" ["desk","numbers","row"] (top 132)
 EE:a7 K mg "answer_after" ["desk","numbers","row"] (top 133)
 EF:a7 K mg "answer_come" ["desk","numbers","row"] (top 134)
 EG:a7 K mg "answer_back" ["desk","numbers","row"] (top 135)
 EH:a7 K mg "answer_visits" ["desk","numbers","row"] (top 136)
 EI:a7 K mg "answer_steps" ["desk","numbers","row"] (top 137)
 EJ:a7 K mg "answer_gain" ["desk","numbers","row"] (top 138)
 EK:a7 K mg "answer_classes" ["desk","numbers","row"] (top 139)
 EL:a7 K mg "answer_steady" ["desk","numbers","row"] (top 140)
 EM:a7 K mg "answer_long" ["desk","numbers","row"] (top 141)
 EN:a7 K mg "answer_period" ["desk","numbers","row"] (top 142)
 Nb:a7 K mg "answers" ["calls"] (top 144)
 EO:a7 K mg "answer_to" ["desk","call","numbers","row"] (top 145)
 EP:a7 K mg "counted_bytes" ["text"] (top 146)
 EQ:a7 K mg "counted_shares" ["shares"] (top 147)
 ER:mg "abs"=none
 Nc:mg "all"=none
 ES:mg "any"=none
 kL:mg "enumerate"=none
 cf:mg "len"=none
 pb:mg "list"=none
 Nd:mg "ord"=none
 nt:mg "range"=none
 Nf:mg "reversed"=none
 Ng:mg "set"=none
 Nh:mg "sorted"=none
 Ni:mg "str"=none
 nu:mg "sum"=none
 Nj:mg "tuple"=none
 lR:mg "zip"=none
 ET:GT K mg "BLANKS" bx.Dd [.int 32,.int 9,.int 10]
 EU:GT K mg "CALLS_WITH_ROWS" bx.M9 [.int 0,.int 8]
 x7:c6 mg "DIGIT_ZERO" (.int 48)
 EV:c6 mg "END" (.str "end")
 Nk:c6 mg "FORM_TOO_LONG" (.int 10)
 Nl:c6 mg "FROM_ZERO" (.str "0123456789:;<=>?@ABCDEFGHIJKLMNOPQRSTUVWXYZ[\\]^_`abcdefghijklmnopqrstuvwxyz")
 Nm:c6 mg "GREATER" (.int 62)
 Nn:c6 mg "LINE_END" (.int 10)
 No:c6 mg "LOAD" (.int 0)
 x8:c6 mg "MINUS" (.int 45)
 x9:c6 mg "MOST_BYTES" (.int 4096)
 Np:c6 mg "MOST_NUMBER" (.int 1000000000)
 Nq:c6 mg "MOST_STATES" (.int 24)
 Nr:c6 mg "MOST_STEPS" (.int 8)
 Nt:c6 mg "MOST_STEPS_AFTER" (.int 100)
 Nu:c6 mg "MOST_WORD_BYTES" (.int 16)
 nv:c6 mg "NAME" (.str "name")
 Nv:c6 mg "NOT_ALLOWED" (.int 3)
 Nw:c6 mg "NOT_CLOSED" (.int (-7))
 Nx:c6 mg "NO_CHAIN_HELD" (.int (-1))
 EW:GT K mg "NO_NAMES" bx.De [.str "chance",.str "budget",.str "def",.str "let",.str "observe",.str "tell",.str "table",.str "net",.str "flag",.str "num",.str "if",.str "flip",.str "pick",.str "uniform",.str "given",.str "weigh",.str "true",.str "false"]
 Ny:c6 mg "NO_SET_OF_STATES" (.int (-5))
 EX:c6 mg "NO_STATE" (.int 6)
 jH:c6 mg "NO_SUCH_NUMBER" (.int (-2))
 uo:c6 mg "NO_TOKEN" (.int 2)
 Nz:c6 mg "NO_WEIGHT" (.int 11)
 x_:c6 mg "NUMBER" (.str "number")
 EY:GT K mg "NUMBERS_OF_CALLS" bx.Df [.int 0,.int 0,.int 0,.int 1,.int 2,.int 2,.int 1,.int 2,.int 1,.int 1,.int 0,.int 1,.int 1,.int 1]
 EZ:nk K mg "ON_CHAIN" bx.x5 (x4 bx.fn)
 NA:c6 mg "OUT_OF_RANGE" (.int (-5))
 NB:c6 mg "REMARK" (.int 35)
 up:nk K mg "SIGNS" bx.M_ [(61,.str "="),(123,.str "{"),(125,.str "}"),(40,.str "("),(41,.str ")"),(91,.str "["),(93,.str "]"),(44,.str ","),(59,.str ";"),(58,.str ":"),(47,.str "/"),(124,.str "|")]
 NC:c6 mg "TOO_LONG" (.int 1)
 E0:c6 mg "TOO_MANY" (.int 4)
 E1:c6 mg "TOO_SMALL" (.int 7)
 E2:c6 mg "TWICE" (.int 5)
 x':c6 mg "WITHOUT_END" (.int (-6))
 hn:GT K mg "ZERO" bx.x6 [.int 0,.int 1]
 f7:mg "Fault"=some (.ref ad.Fault)
 e5:rz K ad.Fault bx.M' bx.Na (inClass (top 46) 0)
 ND:mg "answer_shown"=some (.ref (bx.fn 1))
 NE:mg "answer_sizes"=some (.ref (bx.fn 2))
 NF:mg "answer_state"=some (.ref (bx.fn 3))
 NG:mg "answer_after"=some (.ref (bx.fn 4))
 NH:mg "answer_come"=some (.ref (bx.fn 5))
 NI:mg "answer_back"=some (.ref (bx.fn 6))
 NJ:mg "answer_visits"=some (.ref (bx.fn 7))
 NK:mg "answer_steps"=some (.ref (bx.fn 8))
 NL:mg "answer_gain"=some (.ref (bx.fn 9))
 NM:mg "answer_classes"=some (.ref (bx.fn 10))
 NN:mg "answer_steady"=some (.ref (bx.fn 11))
 NO:mg "answer_long"=some (.ref (bx.fn 12))
 NP:mg "answer_period"=some (.ref (bx.fn 13))
local macro_rules|`(tactic|walk_at "n")=>`(tactic|(intro _ _ _ _ h;first|exact zn1 h λ_=>rfl|exact zn2 h λ_ _=>rfl|exact zn3 h λ_ _ _=>rfl|exact zn4 h λ_ _ _ _=>rfl|exact zn5 h λ_ _ _ _ _=>rfl|exact zn6 h λ_ _ _ _ _ _=>rfl|exact zn7 h λ_ _ _ _ _ _ _=>rfl|exact zn8 h λ_ _ _ _ _ _ _ _=>rfl|exact zn9 h λ_ _ _ _ _ _ _ _ _=>rfl|repeat (first|(obtain⟨e,d⟩:=h;first|exact congrArg List.length e|exact(congrArg List.length e).trans (congrArg Nat.succ d.1))|obtain⟨_,h⟩:=h)))
def zm0:=True
theorem zn0:zm0:=trivial
abbrev zt0{α}(Q N:α->L2.am->Prop):Prop:=∀x H,zm0->Q x H->N x H
def zs0(t u:L2.cy):L2.cy:=λD aa H=>∀N,zt0 (u D) N->t {D with nx:=N} aa H
def ze0(t:L2.TE):L2.TE:=λaa H Q=>∀N,zt0 Q N->t aa H N
theorem zx0{X st t rest u}(ae:L2.fz X st t)(ag:L2.eo X rest u):L2.eo X (st::rest) (zs0 t u):=λpins s aa H D I h=>L2.ax ae ag pins s aa H D I (h (u D) λ_ _ _ x=>x)
theorem zf0{X e t}(d:L2.aH X e t):L2.aH X e (ze0 t):=λpins s aa H Q I h=>d pins s aa H Q I (h Q λ_ _ _ x=>x)
theorem zi0{t:L2.cy}{D aa H}(h:∀N,zt0 (t D) N->N aa H):t D aa H:=h (t D) λ_ _ _ x=>x
local macro_rules|`(tactic|generalize $h:ident : $e:term = $x:ident)=>`(tactic|(generalize $h:ident : $e:term = $x:ident at ⊢;revert $h:ident;revert $x:ident;refine zg0 ?_;intro $x:ident;intro $h:ident))
set_option hygiene false in
local macro_rules|`(tactic|walk_at "r0")=>`(tactic|((try dsimp only [L2.eL,L2.AO,L2.I5,L2.AN,L2.wN,L2.AM,L2.q7,L2.dg,L2.i3,L2.fP,L2.ju,L2.mY,L2.iY,L2.m3,L2.AS,L2.A1,L2.wL,L2.A2,L2.AE,L2.AF,L2.AG,L2.AH,L2.AI,L2.AJ,L2.AL,L2.re,L2.km,L2.m5,L2.tA,L2.q9,L2.kj,L2.wZ,mf.xO,mf.xP,mf.t4,mf.t5,mf.rD,mf.rE,mf.CJ,mf.CK,mf.tZ,mf.CL,L2.AQ,L2.wT,mf.CO,mf.CP,mf.CQ,L2.AC,L2.I2,L2.start,List.zip_cons_cons,List.zip_nil_left,List.lookup_cons,List.lookup_nil,List.length_cons,List.length_nil,Nat.reduceAdd,Nat.reduceSub,Nat.zero_add,List.replicate_succ,List.replicate_zero,List.cons_append,List.nil_append,List.getElem?_cons_zero,List.getElem?_cons_succ,List.set_cons_zero,List.set_cons_succ,Bool.not_true,mf.xV,mf.xU,L2.rf,List.zip_nil_right,L2.xz,mf.t8,L2.Bi,L2.Bh,L2.Bg,mf.xR,kC.Cy,mf.ua,mf.C5,mf.ub,mf.uc,mf.ud,mf.C9,mf.C_,List.headD_cons,mf.gv,L2.BV,L2.BP,L2.BQ,L2.BO,L2.BR,L2.AR,L2.AP,L2.rg,L2.BW,L2.B0,L2.tL,List.map,L2.zN0,L2.zB0,L2.zI0,L2.zR0]);try erw[List.zip_cons_cons,List.zip_nil_left,List.lookup_cons,List.lookup_nil,List.map_cons,List.map_nil,List.length_cons,List.length_nil,Nat.reduceAdd,Nat.reduceSub,Nat.zero_add,List.replicate_succ,List.replicate_zero,List.cons_append,List.nil_append,List.append_nil,List.getElem?_cons_zero,List.getElem?_cons_succ,List.set_cons_zero,List.set_cons_succ,Option.some.injEq,L2.V.int.injEq,L2.V.str.injEq,L2.V.aG.injEq,L2.V.ref.injEq,List.cons.injEq,exists_eq_left',exists_eq_left,exists_and_left,exists_and_right,reduceCtorEq,false_and,and_false,exists_false,or_false,false_or,and_true,true_and,decide_eq_true_eq,decide_eq_false_iff_not,Bool.not_eq_true',Bool.not_true,List.zip_nil_right,if_true,if_false,List.headD_cons,L2.zN0,L2.zB0,L2.zI0,L2.zR0]))
local macro_rules|`(tactic|walk_at "r1")=>`(tactic|first|(with_reducible refine (‹zt0 _ _› _ _ zn0 ?_))|((first|(with_reducible show zs0 _ _ _ _ _)|(with_reducible show ze0 _ _ _ _));refine (λ_ _=>?_)))
local macro_rules|`(tactic|walk_at "rd")=>`(tactic|((repeat walk_at "r1");walk_at "r0";repeat (walk_at "r1";(repeat walk_at "r1");walk_at "r0")))
local macro_rules|`(tactic|walk_at "z")=>`(tactic|try dsimp only [zN0,zB0,zI0,zR0])
local macro_rules|`(tactic|rfl')=>`(tactic|walk_at "rd")
local macro_rules|`(tactic|symm)=>`(tactic|walk_at "z")
local macro_rules|`(tactic|walk_at "s")=>`(tactic|exact⟨rfl,rfl,rfl,by decide+kernel,rfl,by decide+kernel,by decide+kernel⟩)
local macro_rules|`(tactic|walk_at "f")=>`(tactic|dsimp only [L2.oQ,lE,xt,xv,tv,hR,m5,km,xU,mY,zN0,List.getElem?_cons_zero,List.getElem?_cons_succ])
local macro_rules|`(tactic|walk_at "b")=>`(tactic|(intro _ _ _ _ _ _ us hl;repeat' (first|(exfalso;simp at hl;done)|(rcases us with _|⟨_,us⟩)|rfl)))
structure fS(P:Program)(w:World)(K:PySem.W.Frag)(mg:Str->Option Value)(base:Heap)(ad:bC)(bx:hk):Prop extends Dg K mg ad bx where
 hc:ef K ad
abbrev bt:=PySem.W.Frag->bC->bE
section
variable {P:Program}{w:World}{K:PySem.W.Frag}{mg:Str->Option Value}{base:Heap}{ad:bC}{bx:hk}{x m qual:Str}{C:Addr}{ps:List Str}{st:Stmt} (Z:fS P w K mg base ad bx) (k:Nat)
abbrev bz(_:fS P w K mg base ad bx)(_:a7 K mg x ps st)(k:Nat)(sp:bt):Prop:=hi P w K mg base dB k x ps (sp K ad)
abbrev ho(_:fS P w K mg base ad bx)(_:a7 K mg x ps st)(k:Nat)(sp:bt):Prop:=hi P w K mg base (eQ P w ad.Fault) k x ps (sp K ad)
abbrev uq(_:fS P w K mg base ad bx)(_:MethAt K C m qual ps st)(k:Nat)(sp:bt):Prop:=kH P w K mg base dB k C m ps (sp K ad)
abbrev NQ(_:fS P w K mg base ad bx)(_:MethAt K C m qual ps st)(k:Nat)(sp:bt):Prop:=kH P w K mg base (eQ P w ad.Fault) k C m ps (sp K ad)
abbrev jI(_:fS P w K mg base ad bx)(_:gR K mg x C qual ps st)(k:Nat)(sp:bE):Prop:=lP P w K mg base dB k x C ps sp
end
section
variable {P:Program}{w:World}{K:PySem.W.Frag}{mg:Str->Option Value}{base:Heap}{ad:bC}{bx:hk} (Z:fS P w K mg base ad bx)
def ur {a b:Int}{m n:Nat} (d:a.natAbs<2^m) (f:b.natAbs<2^n) (h:m+n<=134217728):IntMulOk a b:=by
 have c:∀ {x:Int}{k:Nat},x.natAbs<2^k->Builtin.Int.intBits x<=k:=λ{x k} g=>by
  unfold Builtin.Int.intBits;split
  ·nofun
  ·rename_i i
   have z:x.natAbs≠0:=λe=>i (by nofun);have:=(Nat.log2_lt z).mpr g;lia
 have ae:=c d;have ag:=c f;calc PyProof.Rows.mulOk_of_bits ae ag h
def E3{a:Int}(h:a.natAbs<2^n)(b:0<n):a.natAbs.log2<n:=by
 by_cases z:a.natAbs=0;nofun;calc(Nat.log2_lt z).mpr h
structure Small(a:Int):Prop where
 lt:a.natAbs<2^8999
def Small.le(h:Small b)(e:a.natAbs<=b.natAbs):Small a:={Xn e h.lt}
def Small.log(h:Small a):a.natAbs.log2<9000:=E3 (YI h.lt (Xi (by decide) (by decide))) (by decide)
def Small.mul(c:Small a)(d:Small b):IntMulOk a b:=ur c.lt d.lt (by decide)
def NR:bt:=λK ad vs H Q _=>∃a b,vs=[.int a,.int b]/\Q (.int (Int.gcd a b)) H
def nw:bz Z Z.Dh 1 NR:=by
 refine d0 ["one","other","rest"] Z.Dh (λn nd o d=>(ax (aV 0 nd (gm A3 (by rfl) Z.ER PyProof.Rows.Boot.«abs» (av (ah 0)))) (ax (aV 1 nd (gm A3 (by rfl) Z.ER PyProof.Rows.Boot.«abs» (av (ah 1)))) (ax (hK Xe (b1 hN (ah 1) aJ (bZ _)) (ax (aV 2 nd (bl Ji (ah 0) (ah 1))) (ax (aV 0 nd (ah 1)) (az (aV 1 nd (ah 2)))))) (az (aT (ah 0))))))) λH vs Q E h=>?_;let(a,b,rfl,k):=h;rfl';have i:(if a<0 then -a else a)=a.natAbs:=by split<;>lia
 have j:(if b<0 then -b else b)=b.natAbs:=by split<;>lia
 rw[i,j];generalize c:(λm aa aj=>aj=H/\∃(x:Nat)(r:Option V),aa=[some (.int (x)),some (.int ((m:Nat))),r]/\Nat.gcd x m=Int.gcd a b)=W;refine{W,{b.natAbs,by rw[<-c];calc{rfl,a.natAbs,_,rfl,rfl}},λy aa aj e=>?_};rw[<-c]at e;let(rfl,x,r,rfl,f):=e;rfl';split;rename_i g;refine{_,λ_ _ h=>h,g,x % y,Nat.mod_lt x (by nofun),?_};rw[<-c];refine{rfl,y,_,by rw[Int.natCast_emod],?_};rwa[Nat.gcd_comm,<-Nat.gcd_rec,Nat.gcd_comm];nofun
def NS:bt:=λK ad vs H Q _=>∃a b,vs=[.int a,.int b]/\0<a/\0<b/\Small a/\Small b/\Q (.int (Int.lcm a b)) H
def ya(h:0<b):0<Int.gcd a b:=Int.gcd_pos_of_ne_zero_right _ (by lia)
def yb(h:0<b):Int.gcd a b<=b.natAbs:=aa5 _ (by omega)
def yc:bz Z Z.Di 2 NS:=by
 refine d0 ["one","other"] Z.Di (λg nd j c=>(az (aT (bl dH (bl jb (ah 0) (a5 (nw Z) g (aD (ah 0) (av (ah 1))))) (ah 1))))) λH vs Q E h=>zi0 λ_ _=>?_;let(a,b,rfl,l,d,i,f,k):=h;rfl';refine{a,b,rfl,?_};have o:=ya (a:=a) d;have hl:=yb (a:=a) d;rfl';refine{{by nofun,(f.le ?_).log},Small.mul (i.le ?_) f,?_};nofun;have e:a/(Int.gcd a b)<=a:=aa6 _ (by lia);have p:0<=a/(Int.gcd a b):=ZN (by lia) (by nofun);lia;have e:a/(Int.gcd a b)*b=(Int.lcm a b):=by obtain⟨n,rfl⟩:∃n:Nat,a=n:={a.toNat,by lia};obtain⟨m,rfl⟩:∃m:Nat,b=m:={b.toNat,by lia};show(n:Int)/((Nat.gcd n m))*m=((n*m/Nat.gcd n m:Nat));erw[Nat.mul_div_right_comm (XN n m),Y0,Z9]
 rw[e];calc k
def low(t b:Int):Int×Int:=(t/(Int.gcd t b),b/(Int.gcd t b))
def NT:bt:=λK ad vs H Q _=>∃t b,vs=[.int t,.int b]/\0<b/\Small b/\∀v ai,aw H ai->gu K ai v (low t b)->Q v ai
def jJ:bz Z Z.Dj 2 NT:=by refine d0 ["top","bottom","shared"] Z.Dj (λf nd i d=>(zx0 (aV 2 nd (a5 (nw Z) f (aD (ah 0) (av (ah 1))))) (az (aT (kG (aD (bl jb (ah 0) (ah 2)) (av (bl jb (ah 1) (ah 2))))))))) λH vs Q E h=>?_;let(t,b,rfl,e,g,k):=h;rfl';refine{t,b,rfl,?_};rfl';have j:=ya (a:=t) e;have hl:=yb (a:=t) e;have c:(Int.gcd t b:Int).natAbs.log2<9000:=(g.le (by nofun)).log;rfl';exact{{by lia,c},{by lia,c},by decide,λp ai l hs ag=>k _ ai hs {p,rfl,bJ.of ag}}
def NU:bt:=λK ad vs H Q _=>∃c a b,vs=[.int c,.int a,.int b]/\Q (.int (Int.gcd b (Int.gcd a c))) H
def E4:bz Z Z.Dn 2 NU:=by
 refine d0 ["short","one","other","shared"] Z.Dn (λf nd g d=>(zx0 (aV 3 nd (a5 (nw Z) f (aD (ah 1) (av (ah 0))))) (zx0 (bB (b1 (fF rfl d) (ah 3) aJ (bZ _)) (az (aT aJ)) bI) (az (aT (a5 (nw Z) f (aD (ah 2) (av (ah 3))))))))) λH vs Q E h=>zi0 λ_ _=>?_;let(c,a,b,rfl,k):=h;rfl';refine{a,c,rfl,?_};rfl';split;nofun;rfl';calc{b,_,rfl,k}
def NV(h:Int.gcd t b=1):low t b=(t,b):=by unfold low;rw[h];simp
def NW(hc:0<c):low (c*t) (c*b)=low t b:=by
 unfold low;have e:(Int.gcd (c*t) (c*b))=c*(Int.gcd t b):=by rw[Int.gcd_mul_left,Y0,abz (by lia)]
 erw[e,aaZ _ _ hc,aaZ _ _ hc]
def NX:bt:=λK ad vs H Q _=>∃t b c,vs=[.int t,.int b,.int c]/\0<b/\0<c/\Small c/\(∃n,b.natAbs∣c.natAbs^n)/\∀v ai,aw H ai->gu K ai v (low t b)->Q v ai
structure Over(t b c:Int)(t' uu s:Int):Prop where
 ex:∃g,0<g/\t=g*t'/\b=g*uu
 pos:0<uu
 i7:0<s
 sc:s.natAbs∣c.natAbs
 st:s∣t'
 dR:s∣uu
 all:∀d:Nat,(d:Int)∣t'->(d:Int)∣uu->(d:Int)∣c->(d:Int)∣s
def Over.start(e:0<b)(hc:0<c):Over t b c t b (Int.gcd b (Int.gcd t c)) where
 ex:={1,by nofun,by lia,by lia};pos:=e;i7:=by have:=aav (a:=b) (Int.gcd t c) (by lia);nofun
 sc:=by refine X1 (YL ..) ?_;exact YL ..
 st:=aa0 (aaQ ..) (ZD ..);dR:=ZD ..;all:=λd ae ag f=>aaw ag (aaw ae f)
def Over.turn(o:Over t b c t' f s):Over t b c (t'/s) (f/s) (Int.gcd (f/s) (Int.gcd (t'/s) s)):=by
 let(u,i):=o.st;let(v,h):=o.dR;have j:t'/s=u:=by rw[i];exact Xx _ (by have:=o.i7;lia)
 have ev:f/s=v:=by rw[h];exact Xx _ (by have:=o.i7;lia)
 have e:0<v:=by have ae:=o.pos;rw[h]at ae;rw[Int.mul_comm]at ae;exact aa1 ae (by have:=o.i7;omega)
 rw[j,ev];let(g,k,l,m):=o.ex;refine{{g*s,aa2 k o.i7,by grind,by grind},e,?_,?_,?_,?_,λd ae ag n=>?_};have:=aav (a:=v) (Int.gcd u s) (by lia);nofun;refine X1 (YL ..) ?_;calc X1 (YL ..) o.sc;calc aa0 (aaQ ..) (ZD ..);calc ZD ..;refine aaw ag (aaw ae (o.all d ?_ ?_ n));rw[i];calc aaR ae;rw[h];calc aaR ag
def Over.done(o:Over t b c t' a s)(hs:¬1<s)(e:∃n:Nat,b.natAbs∣c.natAbs^n):low t b=(t',a):=by
 let(g,f,i,d):=o.ex;let(n,j):=e;have s1:s=1:=by have:=o.i7;lia
 erw[i,d,NW f];refine NV ?_;have iF:Nat.Coprime (Int.gcd t' a) c.natAbs:=by have h:=o.all (Nat.gcd (Int.gcd t' a) c.natAbs) ?_ ?_ ?_;rw[s1]at h;have h':=Zo.mpr h;calc Nat.dvd_one.mp h';calc aa0 (aa3.mpr (XN ..)) (ZD ..);calc aa0 (aa3.mpr (XN ..)) (aaQ ..);exact Zo.mp (by calc X4 ..)
 refine Nat.Coprime.eq_one_of_dvd (Nat.Coprime.pow_right n iF) (X1 ?_ j);erw[d,XW];calc Nat.dvd_mul_left_of_dvd (YL ..) _
def NY(a:0<b):low 0 b=(0,1):=by
 unfold low;have e:(Int.gcd 0 b)=b:=by rw[Int.gcd_zero_left,abz (by lia)]
 rw[e,Int.ediv_self (by lia)];simp
def NZ:bz Z Z.Dk 3 NX:=by
 refine d0 ["top","bottom","base","shared"] Z.Dk (λj nd z f=>(ax (bB (b1 (fF rfl f) (ah 0) aJ (bZ _)) (az (aT (ja Z.hn rfl))) bI) (ax (aV 3 nd (a5 (E4 Z) j (aD (ah 2) (aD (ah 0) (av (ah 1)))))) (zx0 (hK Xe (b1 hN (ah 3) aJ (bZ _)) (ax (aV 0 nd (bl jb (ah 0) (ah 3))) (ax (aV 1 nd (bl jb (ah 1) (ah 3))) (az (aV 3 nd (a5 (E4 Z) j (aD (ah 3) (aD (ah 0) (av (ah 1)))))))))) (az (aT (kG (aD (ah 0) (av (ah 1)))))))))) λH vs Q E h=>zi0 λ_ _=>?_;let(t,b,c,rfl,l,hc,u,w,k):=h;rfl';split;rename_i e;subst e;refine k _ H (aw.refl H) {bx.x6,rfl,?_};rw[NY l];calc Z.hn.2 H;refine{c,t,b,rfl,?_};generalize g:(λm(aa:L2.St)aj=>aj=H/\∃t' d s,aa=[some (.int t'),some (.int d),some (.int c),some (.int s)]/\Over t b c t' d s/\m=d.toNat)=W;rfl';refine{W,{b.toNat,by rw[<-g];calc{rfl,t,b,_,rfl,Over.start l hc,rfl}},λm aa aj n=>?_};rw[<-g]at n;let(rfl,t',d,s',rfl,o,x):=n;rfl';have a:=(u.le (X8 (by (simp;lia)) o.sc)).log;split;rename_i hs;refine{_,λ_ _ h=>h,⟨o.i7,a⟩,⟨o.i7,a⟩,s',_,_,rfl,(d/s').toNat,?_,?_};rw[x];let(v,q):=o.dR;have r:=o.pos;have ev:d/s'=v:=by rw[q];exact Xx _ (by lia)
 have A:0<v:=by rw[q,Int.mul_comm]at r;exact aa1 r (by lia)
 have ag:2*v<=s'*v:=Int.mul_le_mul_of_nonneg_right (by lia) (by lia);rw[ev];grind;rw[<-g];calc{rfl,_,_,_,rfl,o.turn,rfl};rename_i hs;rfl';refine{by decide,λp ai y i ag=>k _ ai i {p,rfl,?_}};rw[o.done hs w];calc bJ.of ag
def aZ{j:Nat}(h:au K H a xs)(e:xs[j]? =some v)(q:Q v H):xQ K a j H Q:={xs,v,.inl h,w7 e,q}
def d_{j:Nat}(h:bJ K H a xs)(e:xs[j]? =some v)(q:Q v H):xQ K a j H Q:={xs,v,.inr h,w7 e,q}
def cw(h:au K H a xs)(q:Q (.int (xs.length:Int)) H):CS K a H Q:={xs,.inl h,q}
def bv(b:UInt8):V:=.int b.toNat
def pc(K:PySem.W.Frag):Re (List UInt8):=λH v bs=>∃a,v=.ref a/\au K H a (bs.map bv)
def isDig(b:Int):Bool:=decide (48<=b)&&decide (b<=57)
def isLet(b:Int):Bool:=(decide (65<=b)&&decide (b<=90))||(decide (97<=b)&&decide (b<=122))
def uv b:isDig b.toNat=isDigit b:=by unfold isDig isDigit;simp;norm_cast
def E5 b:isLet b.toNat=isLetter b:=by unfold isLet isLetter;simp;norm_cast
def N0:bt:=λK ad vs H Q _=>∃b,vs=[.int b]/\Q (.aG (isDig b)) H
def yd:bz Z Z.DS 1 N0:=by refine d0 ["byte"] Z.DS (λc nd d a=>(az (aT (w2 oT oT aJ (ah 0) aJ)))) λH vs Q E h=>?_;let(b,rfl,k):=h;rfl';unfold isDig at k;split;nofun;nofun
def N1:bt:=λK ad vs H Q _=>∃b,vs=[.int b]/\Q (.aG (isLet b)) H
def E6:bz Z Z.DR 1 N1:=by refine d0 ["byte"] Z.DR (λe nd f a=>(az (aT (wM (w2 oT oT aJ (ah 0) aJ) (tr (w2 oT oT aJ (ah 0) aJ)))))) λH vs Q E h=>?_;let(b,rfl,k):=h;unfold isLet at k;rfl';by_cases ae:65<=b<;>by_cases ag:b<=90<;>by_cases c:97<=b<;>by_cases d:b<=122<;>simp[ae,ag,c,d]at k⊢<;>calc k
def hp{bs:List UInt8}(h:bs[p]? =some b):bs.drop p=b::bs.drop (p+1):=by let(ae,ag):=WH.mp h;rw[X5 ae,ag]
def pd{bs:List UInt8}(h:p<bs.length):∃b,bs[p]? =some b:={_,WK h}
def jK {bs:List UInt8}{p:Nat}{b:UInt8} (h:bs[p]? =some b):(bs.map bv)[p]? =some (bv b):=by nofun
def rF{n:Nat}(a:n<256):b.toNat=(n:Int)↔b=UInt8.ofNat n:=by
 constructor;intro h;have h':b.toNat=n:=by lia
 rw[<-h'];calc(UInt8.ofNat_toNat).symm;intro h;rw[h,YZ (by nofun)]
def N2:bt:=λK ad vs H Q _=>∃v bs,∃p:Nat,vs=[v,.int p]/\pc K H v bs/\p<=bs.length/\Q (.int ((p+bA (bs.drop p):Nat))) H
def N3:bz Z Z.DN 1 N2:=by
 refine d0 ["text","place"] Z.DN (λu nd w j=>(ax (hK Xe (dP.pt (i1 (b1 io (ah 1) (cm K Z.cf (ah 0)) (bZ _)) (i0 (b1 (k_ne rfl j) (aQ K (ah 0) (ah 1)) (bG Z.Nn) (bZ _))))) (az (mZ (i:=1) nd rfl (Or.inl rfl) aJ m1))) (az (aT (ah 1))))) λH vs Q E h=>zi0 λ_ _=>?_;let(v,bs,p,rfl,z0,t,k):=h;let(a,rfl,o):=z0;rfl';generalize l:(λm(aa:L2.St)aj=>aj=H/\∃q:Nat,aa=[some (.ref a),some (.int q)]/\q<=bs.length/\q+bA (bs.drop q)=p+bA (bs.drop p)/\m=bs.length-q)=W;refine{W,{bs.length-p,by lia},λm aa aj r=>?_};rw[<-l]at r;let(rfl,q,rfl,y,d,A):=r;rfl';refine cw o ?_;rw[WC];rfl';split;rename_i f;have f:q<bs.length:=by nofun
 let(b,s):=pd f;refine aZ o (jK s) ?_;erw[bv];rfl';rw[hp s]at d;split;rename_i g;have c:(b !=10)=true:=by rw[ZF];intro z;rw[z]at g;exact g rfl
 refine{_,λ_ _ h=>h,bs.length-(q+1),by lia,?_};rw[<-l];refine{rfl,q+1,rfl,by lia,?_,rfl};unfold bA at d⊢;rw[Xt,WO c,WL]at d;lia;rename_i g;have z:b=UInt8.ofNat 10:=(rF (by decide)).mp (by nofun);have c:¬(b !=10)=true:=by rw[z];decide
 unfold bA at d;rw[Xt,WM c,Yc]at d;rwa[show bA (bs.drop p)=(List.takeWhile (λx=>x !=10) (bs.drop p)).length from rfl,<-d]at k;rename_i f;have e:q=bs.length:=by lia
 subst e;rw[YO]at d;rwa[<-d]at k
def N4:bt:=λK ad vs H Q _=>∃v bs,∃p:Nat,vs=[v,.int p]/\pc K H v bs/\p<=bs.length/\Q (.int ((p+skip (bs.drop p):Nat))) H
def ye{n:Nat}(a:n<256):(n==(b.toNat:Int))=(b==UInt8.ofNat n):=by rw[Xu,YB,YB,<-rF a];calc eq_comm
def N5:ko (.int b.toNat) [.int 32,.int 9,.int 10]=isBlank b:=by have a:=ye (b:=b) (n:=32) (by decide);have c:=ye (b:=b) (n:=9) (by decide);have d:=ye (b:=b) (n:=10) (by decide);unfold ko isBlank;simp[ip,aae];grind
def E7:bz Z Z.DM 2 N4:=by
 refine d0 ["text","place"] Z.DM (λw nd B g=>(zx0 (hK Xe (b1 io (ah 1) (cm K Z.cf (ah 0)) (bZ _)) (az (bB (b1 (fF rfl g) (aQ K (ah 0) (ah 1)) (bG Z.NB) (bZ _)) (az (aV 1 nd (a5 (N3 Z) w (aD (ah 0) (av (ah 1)))))) (az (bB (b1 (k_in rfl) (aQ K (ah 0) (ah 1)) (ja Z.ET rfl) rfl) (az (mZ (i:=1) nd rfl (Or.inl rfl) aJ m1)) (az (aT (ah 1)))))))) (az (aT (ah 1))))) λH vs Q E h=>zi0 λ_ _=>?_;let(v,bs,p,rfl,z0,x,k):=h;let(a,rfl,o):=z0;rfl';generalize r:(λm(aa:L2.St)aj=>aj=H/\∃q:Nat,aa=[some (.ref a),some (.int q)]/\q<=bs.length/\q+skip (bs.drop q)=p+skip (bs.drop p)/\m=bs.length-q)=W;refine{W,{bs.length-p,by lia},λm aa aj u=>?_};rw[<-r]at u;let(rfl,q,rfl,y,c,C):=u;rfl';refine cw o ?_;rw[WC];rfl';split;rename_i d;have d:q<bs.length:=by nofun
 let(b,j):=pd d;refine{_,λ_ _ h=>h,aZ o (jK j) ?_};erw[bv];rfl';rw[hp j]at c;split;rename_i l;have z:b=UInt8.ofNat 35:=(rF (by decide)).mp (by omega);subst z;refine{.ref a,bs,q,rfl,⟨a,rfl,o⟩,y,?_};rfl';refine{bs.length-(q+bA (bs.drop q)),?_,?_};rw[hp j];unfold bA;rw[Xt,WO (by decide),WL];omega;rw[<-r];have s:=sZ (bs.drop q);rw[W5]at s;refine{rfl,q+bA (bs.drop q),rfl,by lia,?_,rfl};rw[lr (by decide) (by decide)]at c;rw[hp j];have A:bA (UInt8.ofNat 35::bs.drop (q+1))=1+bA (bs.drop (q+1)):=by unfold bA;rw[Xt,WO (by decide),WL];lia
 rw[A];rw[Ys]at c;rw[show q+(1+bA (bs.drop (q+1)))=q+1+bA (bs.drop (q+1))by lia];lia;rename_i l;refine aZ o (jK j) ?_;refine{bx.Dd,_,rfl,.inr (Z.ET.2 aj),rfl,rfl,?_};simp[bv,N5,abu];rfl';split;rename_i f;refine{bs.length-(q+1),by lia,?_};rw[<-r];rw[mF f]at c;exact{rfl,q+1,rfl,by lia,by lia,rfl};rename_i f;rw[mG f (λz=>l (by rw[eq_of_beq z];rfl))]at c;rwa[<-c]at k;rename_i d;rfl';have e:q=bs.length:=by lia
 subst e;rw[YO,Af]at c;rwa[<-c]at k
def fld(h:H p=some (.ins C ao fs))(c:Cl K C fl)(a:f∈fl)(l:fs.lookup f=some v)(q:Q v H):ed K f p H Q:={C,ao,fs,v,h,c.cls,c.no f a,l,q}
def cO(h:H p=some (.ins C ao fs))(c:Cl K C fl)(a:f∈fl)(hl:fs.length<1000)(q:R (upd H p (.ins C ao (fQ f y fs)))):CY K f p y H R:={C,ao,fs,h,c.cls,c.no f a,hl,q}
def pe:jI Z Z.DK 1 (lQ ad.Token ["kind","value","place","behind"]):=by
 refine a6 ["self","kind","value","place","behind"] Z.DK (λc nd d a=>(ax (cN K (ah 0) (ah 1)) (ax (cN K (ah 0) (ah 2)) (ax (cN K (ah 0) (ah 3)) (az (cN K (ah 0) (ah 4))))))) λH vs Q E h=>?_;let(p,ao,us,rfl,hl,b,k):=h;let(e,f,g,i,rfl):=zl4 hl;rfl';refine cO b Z.hc.token (by simp) (by decide) (cO aO Z.hc.token (by simp) (by show 1<1000;decide) (cO aO Z.hc.token (by simp) (by show 2<1000;decide) (cO aO Z.hc.token (by simp) (by show 3<1000;decide) ?_)));simp[gk];calc k
def a4(b:List UInt8):Str:={(b.map (·.toNat)).toArray}
def es(c:Nat):Str:=if c=1 then "->" else{#[c]}
def kindOf(t:VaprbBase.Tok):Str:=match t with|.name b=>if RESERVED.contains b=true then a4 b else "name"|.num _=> "number"|.sign c=>es c|.halt_=> "end"
def valOf(t:VaprbBase.Tok):V:=match t with|.name b=>.str (a4 b)|.num n=>.int n|_=>.int 0
def tokF(t:VaprbBase.PTok)(a:Int):List (Str×V):=[("kind",.str (kindOf t.tok)),("value",valOf t.tok),("place",.int t.place),("behind",.int a)]
def rG(ad:bC)(b:Nat):Re VaprbBase.PTok:=λH v t=>∃a ao,v=.ref a/\H a=some (.ins ad.Token ao (tokF t b))
def jL(ad:bC):Re VaprbBase.PTok:=λH v t=>∃a,rG ad a H v t
def kM(ad:bC)(E:b8)(H:am)(f:VaprbBase.Fault):Prop:=∀ao ai,aw H ai->ai ao=some (.g8 [("code",.int f.code),("place",.int f.place)])->E (.ref ad.Fault) (some ao) ai
def yf(K:PySem.W.Frag)(ad:bC)(ok:List UInt8->Nat->Prop):bE:=λvs H Q E=>∃v bs,∃p:Nat,vs=[v,.int p]/\pc K H v bs/\bs.length<=4096/\ok bs p/\match VaprbBase.token (bs.drop p)with|some (t,k)=>∀u ai,aw H ai->rG ad (p+k) ai u ⟨p,t⟩->Q u ai|none=>kM ad E H {2,p}
def gT(b:UInt8):Bool:=isLetter b||isDigit b
def wl(l:List UInt8):Nat:=(l.takeWhile gT).length
def N6(h:gT b=true):wl (b::r)=wl r+1:=by unfold wl;rw[Xt,WO h,WL]
def N7(h:¬gT b=true):wl (b::r)=0:=by unfold wl;rw[Xt,WM h,Yc]
theorem uw{α:Type}f:∀l:List α,l.take (l.takeWhile f).length=l.takeWhile f|[]=>rfl|a::r=>by rw[Xt];split;erw[WL,aat,uw f r];rfl
theorem yg{α:Type}(f:α->Bool):∀(l:List α)(i:Nat)(x:α),(l.takeWhile f)[i]? =some x->f x=true
 |[],i,x,h=>by simp at h
 |a::r,i,x,h=>by
  rw[Xt]at h;split at h;rename_i b;cases i with
  |zero=>nofun
  |succ i=>exact yg f r i x h
  nofun
def N8:∀n,n<256->((65<=n/\n<=90)\/(97<=n/\n<=122)\/(48<=n/\n<=57))->(Str.ofString "0123456789:;<=>?@ABCDEFGHIJKLMNOPQRSTUVWXYZ[\\]^_`abcdefghijklmnopqrstuvwxyz").cps.toList[n-48]? =some n:=by decide+kernel
def N9(h:gT b=true):(65<=b.toNat/\b.toNat<=90)\/(97<=b.toNat/\b.toNat<=122)\/(48<=b.toNat/\b.toNat<=57):=by unfold gT isLetter isDigit at h;simp at h;calc or_assoc.mp h
def ux(h:a4 a=a4 b):a=b:=by
 unfold a4 at h;calc(List.map_inj_right λx y e=>abg.mp e).mp (by nofun)
def N_:RESERVED.map a4=(["chance","budget","def","let","observe","tell","table","net","flag","num","if","flip","pick","uniform","given","weigh","true","false"]).map Str.ofString:=by decide+kernel
def N' w:ko (.str (a4 w)) ((["chance","budget","def","let","observe","tell","table","net","flag","num","if","flip","pick","uniform","given","weigh","true","false"]).map λx=>V.str (Str.ofString x))=RESERVED.contains w:=by
 have e:(["chance","budget","def","let","observe","tell","table","net","flag","num","if","flip","pick","uniform","given","weigh","true","false"]).map (λx=>V.str (Str.ofString x))=RESERVED.map λb=>V.str (a4 b):=by have:=congrArg (List.map V.str) N_;exact this.symm
 rw[e];unfold ko;rw[List.any_map];generalize RESERVED=l;induction l with|nil=>rfl|cons a r c=>erw[Yx,aaJ];congr 1;show(a4 a==a4 w)=(w==a);rw[Xu,YB,YB];exact{λh=>(ux h).symm,λh=>by rw[h]}
def Oa w:Txt.join (Str.ofString "") (w.map λb=>({#[b.toNat]}))=a4 w:=by
 rw[fD.join_eq];apply fD.rx;erw[fD.xx,Xg];show fD.ng [] (w.map λb=>[b.toNat])=w.map (·.toNat);induction w with|nil=>rfl|cons a r c=>
  cases r with|nil=>rfl|cons b r=>show [a.toNat]++([]++fD.ng [] _)=_;nofun
def Ob{bs:List UInt8}(ae:p<=q)(ag:q<=bs.length):ha (bs.map bv) (some p) (some q)=((bs.drop p).take (q-p)).map bv:=by unfold ha;rw[eF.oV,eF.oV,WC,Zs (show p<=bs.length by lia),Zs ag,<-aah,<-aa4]
def Oc(h:bw (C1 H) us zs):us=zs.map V.str:=by
 apply List.ext_getElem?;intro i;rw[WG];cases hz:zs[i]? with|none=>have:=Yl.mp hz;rw[Yl.mpr (by rwa[h.1])];rfl|some z=>let(x,a,r):=h.get hz;rw[a,show x=V.str z from r];rfl
def Od(K:PySem.W.Frag)(ad:bC):bE:=yf K ad λbs p=>∃b,bs[p]? =some b/\isLetter b=true
def gU(h:kM ad E H f):∀ao,H ao=none->E (.ref ad.Fault) (some ao) (upd H ao (.g8 [("code",.int f.code),("place",.int f.place)])):=λao hd=>h ao _ (fi hd) aO
def Oe:ho Z Z.DP 3 Od:=by
 refine cB ["text","place","behind","word","byte"] Z.DP λH vs Q E f nd R l out n own h=>{_,(zx0 (aV 2 nd (ah 1)) (zx0 (hK own (dP.pt (i1 (b1 io (ah 2) (cm K Z.cf (ah 0)) (bZ _)) (i0 (dP.pt (kf (b9 (a5 (E6 Z) f (av (aQ K (ah 0) (ah 2))))) (ke (b9 (a5 (yd Z) f (av (aQ K (ah 0) (ah 2))))))))))) (az (mZ (i:=2) nd rfl (Or.inl rfl) aJ m1))) (zx0 (bB (b1 hN (bl lF (ah 2) (ah 1)) (bG Z.Nu) (bZ _)) (az (gr (k:=0) out Z.e5 rfl (f.mono (by decide)) rfl Z.f7 (aD (bG Z.uo) (av (ah 1))))) bI) (zx0 (aV 3 nd (xX rfl dQ (dz rfl nd (cH K (jz (jF rfl) (ah 0) (gO (ah 1)) (gO (ah 2)))) (cM (own:=[("byte",4)]) (by kernel_rfl)) (λ_ _ _ _ _=>b3 4 nd) (λ_ _ _ _ _=>dh) λ_ _ _ _ _=>ck (aQ K (bG Z.Nl) (bl lF (ah 4) (bG Z.x7)))))) (zx0 (bB (b1 (k_in (K:=K) rfl) (ah 3) (ja Z.EW rfl) rfl) (az (aT (hX (pe Z) (f.mono (by decide)) rfl (aD (ah 3) (aD (ah 3) (aD (ah 1) (av (ah 2)))))))) bI) (az (aT (hX (pe Z) (f.mono (by decide)) rfl (aD (bG Z.nv) (aD (ah 3) (aD (ah 1) (av (ah 2))))))))))))),zi0 λ_ _=>?_};clear nd R l own n out;let(v,bs,p,rfl,z0,hz,z1,k):=h;let(a,rfl,u):=z0;let(b,J,o):=z1;rfl';have S:p<bs.length:=(WH.mp J).1;have tok:VaprbBase.token (bs.drop p)=if 16<wl (bs.drop p)then none else some (.name ((bs.drop p).takeWhile gT),wl (bs.drop p)):=by rw[hp J];show(if isLetter b=true then _ else _)=_;rw[WO o];rfl
 rw[tok]at k;rfl';refine kJ (λm aa aj=>aj=H/\∃q:Nat,aa=[some (.ref a),some (.int (p:Int)),some (.int (q:Int)),none,none]/\p<=q/\q<=bs.length/\q+wl (bs.drop q)=p+wl (bs.drop p)/\m=bs.length-q)
  (λaa aj=>aj=H/\aa=[some (.ref a),some (.int (p:Int)),some (.int ((p+wl (bs.drop p):Nat):Int)),none,none]/\p+wl (bs.drop p)<=bs.length) (bs.length-p) {rfl,p,rfl,W2 _,Yg S,rfl,rfl} ?_ ?_
 rintro aa aj ⟨rfl,rfl,T⟩;generalize w:p+wl (bs.drop p)=q;rfl';split;rename_i y;have d:16<wl (bs.drop p):=by lia
 rw[WO d]at k;calc{_,_,⟨rfl,rfl⟩,gU k};rename_i y;rfl';have d:¬16<wl (bs.drop p):=by lia
 rw[WM d]at k;simp only at k;have L:((bs.drop p).take (q-p))=(bs.drop p).takeWhile gT:=by rw[<-w,ZR];exact uw gT _
 generalize M:(bs.drop p).takeWhile gT=jv at k L;have U:jv.length=wl (bs.drop p):=by rw[<-M];rfl
 refine{{_,rfl},er xW (jv.map λb=>({#[b.toNat]}:Str)) ?_ λd3 N=>?_};rw[WC,WJ];lia;rfl';refine{_,u,λd0 H1 iH s1 ae=>?_};rw[Ob (by lia) (by lia),L]at ae;refine N d0 _ H1 (au.of ae) (by simp) (λj x z G dI r hz cg q=>?_) λrH ai us et O ag W=>?_;rw[WG]at r hz;cases hc:jv[j]? with
 |none=>rw[hc]at r;cases r
 |some c=>rw[hc]at r hz;cases r;cases hz;have A:gT c=true:=yg gT (bs.drop p) j c (by rw[M];calc hc);have s:=N9 A;erw[bv];rfl';refine{by decide+kernel,c.toNat,?_,q _ G (aw.refl G) rfl};rw[show(c.toNat:Int)-48=((c.toNat-48:Nat):Int)by lia];exact w7 (N8 c.toNat c.toNat_lt s)
 rfl';have B:us=(jv.map λb=>({#[b.toNat]}:Str)).map V.str:=Oc W;subst B;refine{_,au.of ag,?_,?_};rw[Xg,show((λx:Str=>x.length)∘λb:UInt8=>({#[b.toNat]}:Str))=λ_=>1 from rfl,List.map_const',List.sum_replicate_nat,show(Str.ofString "").length=0 from rfl];lia;rfl';rw[Oa];rfl';refine{bx.De,_,rfl,.inr (Z.EW.2 ai),rfl,rfl,?_};dsimp only[zB0,zI0,zN0,zR0];have t:=N' jv;erw[WU,Yz]at t;rw[WM W9,t];split;rename_i f;refine λD ao F X I s=>k _ F (s1.trans (O.trans I)) {D,ao,rfl,?_};rw[s];unfold tokF kindOf valOf;erw[f,Z4,w];rename_i f;rfl';refine λD ao F X I s=>k _ F (s1.trans (O.trans I)) {D,ao,rfl,?_};rw[s];unfold tokF kindOf valOf;erw[f,abu,w];rfl;rintro m aa aj ⟨rfl,q,rfl,Y,N,P,hm⟩ C ct hY;have stop:wl (bs.drop q)=0->C false aj:=λz=>hY aj {rfl,by grind,by lia};rfl';refine cw u ?_;rw[WC];rfl';split;rename_i g;have g:q<bs.length:=by lia
 let(c,hc):=pd g;have go:gT c=true->C true aj:=λz=>ct aj (by rfl';rw[hp hc,N6 z]at P;exact{bs.length-(q+1),by lia,q+1,by lia,by lia,by lia,by lia,rfl});refine aZ u (jK hc) {_,rfl,?_};rw[E5];rfl';split;rename_i hl;calc go (by unfold gT;rw[hl];rfl);rename_i hl;refine aZ u (jK hc) {_,rfl,?_};rw[uv];rfl';cases hd:isDigit c with
 |true=>calc go (by unfold gT;rw[hd,abS])
 |false=>exact stop (by rw[hp hc];calc N7 (by unfold gT;rw[hd,aae];calc hl))
 rename_i g;have e:q=bs.length:=by lia
 calc stop (by rw[e,YO];rfl)
def dl(l:List UInt8):Nat:=(l.takeWhile isDigit).length
def Of(h:isDigit b=true):dl (b::r)=dl r+1:=by unfold dl;rw[Xt,WO h,WL]
def Og(h:¬isDigit b=true):dl (b::r)=0:=by unfold dl;rw[Xt,WM h,Yc]
def Oh{α:Type}f(l:List α):∀x∈l.takeWhile f,f x=true:=λx a=>by let(i,af):=List.getElem?_of_mem a;calc yg f l i x af
def Oi i:IntMulOk i 10:=IntMulOk.of_right (intBits_le_64 (by decide) (by decide))
def numAt(bs:List UInt8)(p:Nat):Prop:=∃b,bs[p]? =some b/\(isDigit b=true\/(b=45/\¬(bs.drop (p+1)).head? =some 62))
def Oj(K:PySem.W.Frag)(ad:bC):bE:=yf K ad numAt
def Ol(h:numAt bs p):∃b,bs[p]? =some b/\VaprbBase.token (bs.drop p)=qy (decide ((b.toNat:Int)=45)) (bs.drop (if(b.toNat:Int)=45 then p+1 else p)):=by
 let(b,c,h):=h;refine{b,c,?_};rcases h with h|⟨h,ag⟩;have a:¬(b.toNat:Int)=45:=by unfold isDigit at h;grind
 rw[WM a,Xl a,hp c];calc Iy h;subst h;rw[hp c];calc Iz ag
def Om:ho Z Z.DQ 3 Oj:=by
 refine cB ["text","place","below","first","behind","size"] Z.DQ λH vs Q E P nd bg d out A own h=>{_,(zx0 (aV 2 nd (kk (fF rfl d) (aQ K (ah 0) (ah 1)) (bG Z.x8) (bZ _))) (ax (aV 3 nd (ts (b9 (ah 2)) (bl dY (ah 1) aJ) (ah 1))) (ax (aV 4 nd (ah 3)) (ax (aV 5 nd aJ) (ax (hK own (dP.pt (i1 (b1 io (ah 4) (cm K Z.cf (ah 0)) (bZ _)) (i0 (b9 (a5 (yd Z) P (av (aQ K (ah 0) (ah 4)))))))) (ax (aV 5 nd (bl lF (bl dY (bl dH (ah 5) aJ) (aQ K (ah 0) (ah 4))) (bG Z.x7))) (az (mZ (i:=4) nd rfl (Or.inl rfl) aJ m1)))) (ax (bB (dP.pt (kf (b1 (fF rfl d) (ah 4) (ah 3) (bZ _)) (ke (b1 hN (ah 5) (bG Z.Np) (bZ _))))) (az (gr (k:=0) out Z.e5 rfl (P.mono (by decide)) rfl Z.f7 (aD (bG Z.uo) (av (ah 1))))) bI) (ax (bB (dP.pt (i1 (b1 (fF rfl d) (aQ K (ah 0) (ah 3)) (bG Z.x7) (bZ _)) (i0 (dP.pt (kf (b9 (ah 2)) (ke (b1 hN (bl lF (ah 4) (ah 3)) aJ (bZ _)))))))) (az (gr (k:=0) out Z.e5 rfl (P.mono (by decide)) rfl Z.f7 (aD (bG Z.uo) (av (ah 1))))) bI) (az (aT (hX (pe Z) (P.mono (by decide)) rfl (aD (bG Z.x_) (aD (ts (b9 (ah 2)) (q_ q' (ah 5)) (ah 5)) (aD (ah 1) (av (ah 4))))))))))))))),zi0 λ_ _=>?_};clear nd bg d own A out;let(v,bs,p,rfl,z0,hz,D,k):=h;let(a,rfl,B):=z0;rfl';let(b,Y,tok):=Ol D;rw[tok]at k;have a8:p<bs.length:=(WH.mp Y).1;rfl';refine aZ B (jK Y) ?_;erw[bv];rfl';refine(apply_ite (λz:Int=>wU _ _ _ [_,_,_,some (V.int z),some (V.int z),_] H) _ (p+1) p).mp ?_;have G:(if(b.toNat:Int)=45 then p+1 else p)<=bs.length:=by split<;>lia
 have R:p<=(if(b.toNat:Int)=45 then p+1 else p):=by split<;>lia
 have I:(if(b.toNat:Int)=45 then p+1 else p)=p+(if decide ((b.toNat:Int)=45)=true then 1 else 0):=by grind
 rw[show(if(b.toNat:Int)=45 then(p:Int)+1 else(p:Int))=(((if(b.toNat:Int)=45 then p+1 else p)))by split<;>lia];generalize gV:(if(b.toNat:Int)=45 then p+1 else p)=F at k G R I⊢;generalize U3:decide ((b.toNat:Int)=45)=neg at k I⊢;have J:F<=bs.length:=G;refine kJ (λm aa aj=>aj=H/\∃q:Nat,aa=[some (.ref a),some (.int (p:Int)),some (.aG neg),some (.int (F:Int)),some (.int (q:Int)),some (.int ((decimal ((bs.drop F).take (q-F)):Nat):Int))]/\F<=q/\q<=bs.length/\q+dl (bs.drop q)=F+dl (bs.drop F)/\m=bs.length-q)
  (λaa aj=>aj=H/\aa=[some (.ref a),some (.int (p:Int)),some (.aG neg),some (.int (F:Int)),some (.int ((F+dl (bs.drop F):Nat):Int)),some (.int ((decimal ((bs.drop F).takeWhile isDigit):Nat):Int))]/\F+dl (bs.drop F)<=bs.length) (bs.length-F) {rfl,F,by rw[Z0,aaL];rfl,W2 _,J,rfl,rfl} ?_ ?_
 rintro aa aj ⟨rfl,rfl,S⟩;generalize j:(bs.drop F).takeWhile isDigit=ds at⊢;have T:dl (bs.drop F)=ds.length:=by rw[<-j];rfl
 have L:∀x∈ds,isDigit x=true:=by rw[<-j];exact Oh _ _
 unfold qy at k;rw[j,Al neg ds L]at k;rw[T]at S⊢;rfl';have o:(ds=[]\/1000000000<decimal ds\/(ds.head? =some 48/\(neg=true\/1<ds.length)))->∀ao,aj ao=none->E (.ref ad.Fault) (some ao) (upd aj ao (.g8 [("code",.int 2),("place",.int (p:Int))])):=λM=>by rw[WO M]at k;exact gU k
 split;calc{_,_,⟨rfl,rfl⟩,o (.inl (Ye.mp (by lia)))};rename_i h0;split;grind;rename_i E8;obtain⟨N,r0,w⟩:∃N r0,ds=N::r0:=by
  cases ds with
  |nil=>exact absurd (show((F+0:Nat):Int)=(F:Int)by lia) h0
  |cons c r=>exact⟨c,r,rfl⟩
 have U:bs[F]? =some N:=by have ae:=uw isDigit (bs.drop F);rw[j,w,WL]at ae;have ag:=congrArg (λl=>l[0]?) ae;erw[List.getElem?_take,aaK,abU]at ag;rw[WO (by lia)]at ag;exact ag
 refine aZ B (jK U) ?_;erw[bv];rfl';have good:¬(ds.head? =some 48/\(neg=true\/1<ds.length))->∀u ai,aw aj ai->rG ad (F+ds.length) ai u {p,.num (if neg=true then -(decimal ds:Int)else(decimal ds:Int))}->Q u ai:=λW=>by
  have Oo:¬(ds=[]\/1000000000<decimal ds\/(ds.head? =some 48/\(neg=true\/1<ds.length))):=by
   intro z;rcases z with z|z|z
   rw[w]at z;cases z;lia;exact W z
  rw[WM Oo]at k;erw[X2]at k;rw[show p+(ds.length+if neg=true then 1 else 0)=F+ds.length by lia]at k;exact k
 have t:ds.head? =some 48↔(N.toNat:Int)=48:=by rw[w,ZL,ZV,s7];lia
 have O:¬(ds.head? =some 48/\(neg=true\/1<ds.length))->if neg=true then
   ∀(x ao:Addr)(ai:am),aj x=none->aw aj ai->ai x=some (bH.ins ad.Token ao [(Str.ofString "kind",V.str (Str.ofString "number")),(Str.ofString "value",V.int (-(decimal ds:Int))),(Str.ofString "place",V.int (p:Int)),(Str.ofString "behind",V.int ((F+ds.length:Nat):Int))])->Q (V.ref x) ai
  else
   ∀(x ao:Addr)(ai:am),aj x=none->aw aj ai->ai x=some (bH.ins ad.Token ao [(Str.ofString "kind",V.str (Str.ofString "number")),(Str.ofString "value",V.int (decimal ds:Int)),(Str.ofString "place",V.int (p:Int)),(Str.ofString "behind",V.int ((F+ds.length:Nat):Int))])->Q (V.ref x) ai:=λW=>by
  have g:=good W;cases neg with
  |true=>rw[WO rfl]at g⊢;calc λx ao ai n s h=>g _ ai s ⟨x,ao,rfl,h⟩
  |false=>rw[WM W9]at g⊢;exact λx ao ai n s h=>g _ ai s ⟨x,ao,rfl,h⟩
 by_cases f:(N.toNat:Int)=48;rw[WO f];by_cases mw:neg=true;rw[WO mw];calc{_,_,⟨rfl,rfl⟩,o (.inr (.inr {t.mpr f,.inl mw}))};rw[WM mw];by_cases ae:1<((F+ds.length:Nat):Int)-(F:Int);rw[WO ae];calc{_,_,⟨rfl,rfl⟩,o (.inr (.inr {t.mpr f,.inr (by lia)}))};rw[WM ae];refine O ?_;rintro⟨_,z|z⟩;calc mw z;lia;rw[WM f];calc O λz=>f (t.mp z.1);rintro m aa aj ⟨rfl,q,rfl,U4,a9,he,hm⟩ C ct hY;have stop:dl (bs.drop q)=0->C false aj:=λz=>hY aj {rfl,by
  have cx:q=F+dl (bs.drop F):=by lia
  rw[cx,ZR,show(bs.drop F).take (dl (bs.drop F))=(bs.drop F).takeWhile isDigit from uw _ _],by lia}
 rfl';refine cw B ?_;rw[WC];rfl';split;rename_i y;have y:q<bs.length:=by lia
 let(c,hc):=pd y;refine aZ B (jK hc) {_,rfl,?_};rw[uv];rfl';cases hd:isDigit c with
 |true=>
  refine ct aj ?_;rfl';refine{Oi _,aZ B (jK hc) ?_};erw[bv];rfl';rw[hp hc,Of hd]at he;refine{bs.length-(q+1),by lia,q+1,{by lia,?_},by lia,by lia,by lia,rfl};have X:(bs.drop F)[q-F]? =some c:=by rw[aaK,show F+(q-F)=q by lia];exact hc
  have t:48<=c.toNat:=by unfold isDigit at hd;erw[decide_eq_true_eq]at hd;exact hd.1
  rw[show q+1-F=(q-F)+1 by lia,eh X,Ai];lia
 |false=>exact stop (by rw[hp hc];calc Og (by rw[hd];decide))
 rename_i y;have e:q=bs.length:=by lia
 calc stop (by rw[e,YO];rfl)
def pf:List (Int×V):=[(61,.str "="),(123,.str "{"),(125,.str "}"),(40,.str "("),(41,.str ")"),(91,.str "["),(93,.str "]"),(44,.str ","),(59,.str ";"),(58,.str ":"),(47,.str "/"),(124,.str "|")]
def Op:∀n:Nat,n<256->SIGNS.contains (UInt8.ofNat n)=(pf.lookup (n:Int)).isSome:=by decide+kernel
def Oq:∀n:Nat,n<256->(pf.lookup (n:Int)).isSome=true->pf.lookup (n:Int)=some (.str (es n)):=by
 intro n a h;have key:∀n:Nat,n<256->(pf.lookup (n:Int)).isSome=true->n∈ [61,123,125,40,41,91,93,44,59,58,47,124]:=by decide+kernel
 have:=key n a h;simp[or_false]at this;rcases this with h|h|h|h|h|h|h|h|h|h|h|h<;>subst h<;>rfl
def Ot b:SIGNS.contains b=(pf.lookup (b.toNat:Int)).isSome:=by have:=Op b.toNat b.toNat_lt;rwa[UInt8.ofNat_toNat]at this
def Ou(K:PySem.W.Frag)(ad:bC):bE:=yf K ad λbs p=>p<bs.length
def Ov{bs:List UInt8}(h:p<bs.length):ha (bs.map bv) (some (p+1)) (some (p+2))=(((bs.drop (p+1)).take 1).map λb=>b.toNat).map V.int:=by unfold ha;rw[show(p:Int)+1=((p+1:Nat))by nofun,show(p:Int)+2=((p+2:Nat))by nofun,eF.oV,eF.oV,WC,Zs (show p+1<=bs.length by lia),<-aah,<-aa4,Xg];by_cases e:p+2<=bs.length;rw[Zs e,show p+2-(p+1)=1 by nofun];rfl;grind
def E9(l:List UInt8):(((l.take 1).map λb=>(b.toNat:Int))=[62])↔l.head? =some 62:=by
 cases l with|nil=>simp|cons c r=>simp[ZV];calc rF (by decide)
def Ow:ho Z Z.DO 4 Ou:=by
 refine cB ["text","place","byte"] Z.DO λH vs Q E i nd B c out f own h=>{_,(zx0 (aV 2 nd (aQ K (ah 0) (ah 1))) (zx0 (bB (b9 (a5 (E6 Z) i (av (ah 2)))) (az (aT (f6 (Oe Z) i f (aD (ah 0) (av (ah 1)))))) bI) (zx0 (bB (dP.pt (i1 (b1 (fF rfl c) (ah 2) (bG Z.x8) (bZ _)) (i0 (b1 (fF rfl c) (jz (jF rfl) (ah 0) (gO (bl dY (ah 1) aJ)) (gO (bl dY (ah 1) aJ))) (bN (av (bG Z.Nm))) (bZ _))))) (az (aT (hX (pe Z) (i.mono (by decide)) rfl (aD dQ (aD aJ (aD (ah 1) (av (bl dY (ah 1) aJ)))))))) bI) (zx0 (bB (dP.pt (kf (b9 (a5 (yd Z) i (av (ah 2)))) (ke (b1 (fF rfl c) (ah 2) (bG Z.x8) (bZ _))))) (az (aT (f6 (Om Z) i f (aD (ah 0) (av (ah 1)))))) bI) (zx0 (bB (b1 (Mn Z.up) (ah 2) (xM Z.up rfl) rfl) (az (aT (hX (pe Z) (i.mono (by decide)) rfl (aD (w8 (CN Z.up) (xM Z.up rfl) (ah 2) λ_ _=>rfl) (aD aJ (aD (ah 1) (av (bl dY (ah 1) aJ)))))))) bI) (az (gr (k:=0) out Z.e5 rfl (i.mono (by decide)) rfl Z.f7 (aD (bG Z.uo) (av (ah 1)))))))))),zi0 λ_ _=>?_};clear nd B c own f out;let(v,bs,p,rfl,z,hz,y,k):=h;let(a,rfl,o):=z;rfl';let(b,m):=pd y;rfl';refine aZ o (jK m) ?_;erw[bv];rfl';refine{_,rfl,?_};rw[E5];rfl';by_cases hl:isLetter b=true;rw[WO hl];calc{.ref a,bs,p,rfl,⟨a,rfl,o⟩,hz,⟨b,m,hl⟩,k};rfl';rw[WM hl];rfl';by_cases g:(b.toNat:Int)=45;rw[WO g];have r:b=45:=(rF (by decide)).mp g;subst r;refine{_,o,λd H1 nd s1 ae=>{by decide+kernel,λbX ai D A ag=>?_}};rw[Ov y]at ae;refine ML (ys:=[62]) (au.of (A _ _ ae)) (au.of ag) ?_;symm;have hs:=s1.trans A;have s:=hs.seq o;split;rename_i hd;rw[decide_eq_true_eq,E9]at hd;rw[hp m,IA hd]at k;calc λx ao j C l t=>k _ j (hs.trans l) ⟨x,ao,rfl,t⟩;rename_i hd;rfl';rw[decide_eq_true_eq,E9]at hd;rfl';refine{_,rfl,?_};rw[uv];symm;rw[WM (by decide)];refine{.ref a,bs,p,rfl,⟨a,rfl,s⟩,hz,{45,m,.inr ⟨rfl,hd⟩},?_};revert k;cases VaprbBase.token (bs.drop p)with|none=>calc λk ao j l=>k ao j (hs.trans l)|some q=>exact λk u j l=>k u j (hs.trans l)
 rfl';rw[WM g];rfl';refine{_,rfl,?_};rw[uv];refine ?_;symm;split;rename_i hd;calc{.ref a,bs,p,rfl,⟨a,rfl,o⟩,hz,{b,m,.inl hd},k};rename_i hd;rfl';rw[hp m,IB hl hd (λz=>g (by nofun))]at k;rfl';have e:=Ot b;have ev:=Oq b.toNat b.toNat_lt;rw[<-e]at ev;unfold pf at e;erw[YA,List.lookup_nil]at e;rw[<-e];split;rename_i hs;rw[WO hs]at k;have k:=k;refine{_,_,rfl,rfl,ev hs,?_};calc λx ao j C l t=>k _ j l ⟨x,ao,rfl,t⟩;rename_i hs;rfl';rw[WM hs]at k;rfl';calc{_,_,⟨rfl,rfl⟩,gU k}
def lS:c7 (jL ad):=λ_ _ _ _ s zz=>by let(b,a,ao,e,h):=zz;calc {b,a,ao,e,s _ _ h}
def Told(ad:bC)(R:Re α)(H:am)(Q:aE)(E:b8):Except VaprbBase.Fault α->Prop|.ok x=>∀u ai,aw H ai->R ai u x->Q u ai|.error f=>kM ad E H f
def Ox:bt:=λK ad vs H Q E=>∃v bs,vs=[v]/\pc K H v bs/\Told ad (cv (jL ad)) H Q E (tokens bs)
def E_(h:rG ad b H v t)(c:H D=some (.lst xs)):rG ad b (del H D) v t:=by let(a,ao,e,h):=h;exact{a,ao,e,by rwa[bf λz=>by erw[z,c]at h;cases h]}
def Oy{α:Type}a t(x:Except VaprbBase.Fault (List α)):(x.map λl=>t::l).map (λl=>a++l)=x.map λl=>(a++[t])++l:=by
 cases x with|error e=>rfl|ok l=>show Except.ok _=Except.ok _;simp
def di(s:aw H aj)(h:kM ad E H f):kM ad E aj f:=λao ai a=>h ao ai (s.trans a)
def Oz:ho Z Z.DL 5 Ox:=by
 refine cB ["text","tokens","place","token"] Z.DL λH vs Q E B nd I D out p own h=>{_,(ax (bB (b1 hN (cm K Z.cf (ah 0)) (bG Z.x9) (bZ _)) (az (gr (k:=0) out Z.e5 rfl (B.mono (by decide)) rfl Z.f7 (aD (bG Z.NC) (av (bG Z.x9))))) bI) (ax (aV 1 nd (bN i4)) (ax (aV 2 nd (a5 (E7 Z) B (aD (ah 0) (av aJ)))) (ax (hK own (b1 io (ah 2) (cm K Z.cf (ah 0)) (bZ _)) (ax (aV 3 nd (f6 (Ow Z) B p (aD (ah 0) (av (ah 2))))) (ax (dv (gS (ah 1) (av (ah 3)))) (az (aV 2 nd (a5 (E7 Z) B (aD (ah 0) (av (aC K (ah 3)))))))))) (ax (dv (gS (ah 1) (av (hX (pe Z) (B.mono (by decide)) rfl (aD (bG Z.EV) (aD aJ (aD (cm K Z.cf (ah 0)) (av (cm K Z.cf (ah 0)))))))))) (az (aT (ah 1)))))))),zi0 λ_ _=>?_};clear nd I D own p out;let(v,bs,rfl,z0,k):=h;let(a,rfl,y):=z0;rfl';refine cw y ?_;rw[WC];rfl';have k0:=k;unfold tokens at k;split;rename_i i;rw[WO (show TEXT<bs.length by unfold TEXT;lia)]at k;calc{_,_,⟨rfl,rfl⟩,gU k};rename_i i;have F:bs.length<=4096:=by lia
 rw[WM (show¬TEXT<bs.length by unfold TEXT;lia)]at k;refine{Xk _,λT H1 J s1 ae=>{.ref a,bs,0,rfl,{a,rfl,s1.seq y},Xk _,?_}};have L:=v8 bs;rw[abo];refine kJ (λm aa aj=>∃us f tk,∃q:Nat,aa=[some (.ref a),some (.ref T),some (.int q),tk]/\aj T=some (.lst us)/\aw H (del aj T)/\bw (jL ad (del aj T)) us f/\q<=bs.length/\
   (bs.drop q=[]\/∃b r,bs.drop q=b::r/\¬isBlank b=true/\¬(b==35)=true)/\f.length<=q/\lex (bs.length+1) 0 bs=(lex (bs.length+1) q (bs.drop q)).map (λl=>f++l)/\m=bs.length-q)
  (λaa aj=>∃us f tk,aa=[some (.ref a),some (.ref T),some (.int bs.length),tk]/\aj T=some (.lst us)/\aw H (del aj T)/\bw (jL ad (del aj T)) us f/\f.length<=bs.length/\
   lex (bs.length+1) 0 bs=.ok (f++[{bs.length,.halt_}])) (bs.length-skip bs) {[],[],none,skip bs,rfl,ae,gw J s1,bw.nil,L,mH (bs.length+1) bs (Yo _),Xk _,?_,rfl} ?_ ?_
 have h:=mI (bs.length+1) (bs.length+1) 0 bs (Yo _) (Yo _);rw[abo]at h;rw[h];cases lex (bs.length+1) (skip bs) (bs.drop (skip bs))<;>rfl;rintro aa aj ⟨us,f,tk,rfl,s,n,d,M,c⟩;rw[c]at k;rfl';refine{{_,s},cw ((n.trans bo).seq y) ?_};rw[WC];rfl';refine cw ((n.trans bo).seq y) ?_;rw[WC];rfl';refine λx ao ai nx g A=>{us,g _ _ s,by rw[d.1,WJ];lia,?_};refine k _ _ (hW ((n.trans bo).trans g) J) {T,_,rfl,aO,?_};have w:x≠T:=λz=>by rw[z,s]at nx;cases nx
 have W:bw (jL ad (upd ai T (.lst (us++[V.ref x])))) us f:=d.imp λu t z=>lS _ _ u t (λb o q=>by
  have N:b≠T:=λe=>by rw[e,fG]at q;cases q
  rw[aK N];calc g _ _ (c_ q)) z
 exact W.snoc {bs.length,x,ao,rfl,by rwa[aK w]};rintro m aa aj ⟨us,f,tk,q,rfl,s,n,d,a9,O,M,c,hm⟩ C ct X;have G:=(n.trans bo).seq y;rfl';refine cw G ?_;rw[WC];rfl';by_cases i:q<bs.length;rw[Xm (by lia)];refine ct aj ?_;have⟨b,N⟩:=pd i;have⟨Y,r,e,nb,P⟩:∃b r,bs.drop q=b::r/\¬isBlank b=true/\¬(b==35)=true:=by
  rcases O with z|z
  rw[hp N]at z;cases z;exact z
 rfl';refine{.ref a,bs,q,rfl,⟨a,rfl,G⟩,F,i,?_};rw[e,Ix nb P]at c;rw[e];cases R:VaprbBase.token (Y::r)with
 |none=>rw[R]at c;rw[c]at k;calc di (n.trans bo) k
 |some z=>
  have⟨t,j⟩:=z;rw[R]at c;simp only at c;rw[Oy]at c;have⟨U5,h6⟩:=s6 R;have rI:r.length+1=bs.length-q:=by have:=congrArg List.length e;rw[W5,WL]at this;lia
  rw[WL]at h6;refine λu ai g I=>{{us,g _ _ s},us,g _ _ s,by rw[d.1,WJ];lia,?_};have S:=E_ I (g _ _ s);let(x,ao,rfl,A):=S;have w:x≠T:=λz=>by rw[z,fG]at A;cases A
  refine fld (by rw[aK w];calc c_ A) Z.hc.token (by simp) rfl ?_;rfl';refine{.ref a,bs,q+j,rfl,{a,rfl,(hW ((n.trans bo).trans g) J).seq y},by lia,?_};rfl';have U:=v8 (bs.drop (q+j));rw[W5]at U;have aI:=mH (bs.length+1) (bs.drop (q+j)) (by rw[W5];lia);rw[Ys]at aI;rw[cj];refine{bs.length-(q+j+skip (bs.drop (q+j))),by lia,us++[V.ref x],f++[⟨q,t⟩],_,q+j+skip (bs.drop (q+j)),⟨rfl,rfl⟩,aO,n.trans (c2 g),?_,by lia,?_,?_,?_,rfl};calc(d.imp λu t z=>lS _ _ u t (c2 g) z).snoc {q+j,x,ao,rfl,A};rcases aI with z|⟨b,r,z⟩
  calc .inl z;calc .inr {b,⟨r,z.1⟩,z.2};rw[WI,XA];lia;rw[c,<-e,Ys,mI bs.length (bs.length+1) (q+j) (bs.drop (q+j)) (by rw[W5];lia) (by rw[W5];lia),Ys]
 have e:q=bs.length:=by lia
 rw[Xl (by nofun)];refine X aj {us,f,tk,by rw[e],s,n,d,by nofun,?_};rw[c,e,YO];rfl
def OA:jI Z Z.DT 1 (C8 ad.Reader 1 C_):=by
 refine a6 ["self","tokens"] Z.DT (λc nd d a=>(ax (cN K (ah 0) (ah 1)) (az (cN K (ah 0) aJ)))) λH vs Q E h=>?_;let(p,ao,us,rfl,hl,b,k):=h;let(e,rfl):=zl1 hl;rfl';refine cO b Z.hc.reader (by simp) (by decide) (cO aO Z.hc.reader (by simp) (by show 1<1000;decide) ?_);simp[gk];calc k
structure ny(gs:List VaprbBase.PTok):Prop where
 end_:∀(n:Nat)t,gs[n]? =some t->t.tok≠.halt_->n+1<gs.length
 ok:∀t∈gs,qE t
def uy(T:Addr)(n:Nat):List (Str×V):=[("tokens",.ref T),("taken",.int n)]
structure ei(ad:bC)(H:am)(r jM T:Addr)(us:List V)(gs:List VaprbBase.PTok)(n:Nat):Prop where
 eC:H r=some (.ins ad.Reader jM (uy T n))
 lst:del H r T=some (.lst us)
 all:bw (jL ad (del H r)) us gs
 halts:ny gs
 lt:n<gs.length
def ei.step(h:ei ad H r a T us b n)(s:aw (del H r) (del ai r))(e:ai r=some (.ins ad.Reader a (uy T m)))(hl:m<b.length):ei ad ai r a T us b m:={e,s _ _ h.lst,h.all.imp λv t z=>lS _ _ v t s z,h.halts,hl}
def ei.yh(h:ei ad H r a T us c n)(d:H D=some (.lst xs))(g:T≠D):ei ad (del H D) r a T us c n:=by
 have f:r≠D:=λz=>by have:=h.eC;erw[z,d]at this;cases this
 have e:del (del H D) r=del (del H r) D:=by unfold del;grind
 refine{by rw[bf f];calc h.eC,by rw[e,bf g];calc h.lst,?_,h.halts,h.lt};rw[e];refine h.all.imp λv t⟨i,z⟩=>{i,E_ (xs:=xs) z ?_};rw[bf λz=>f z.symm];calc d
def E':bt:=λK ad vs H Q _=>∃r b T us a n k t,vs=[.ref r,.str k]/\ei ad H r b T us a n/\a[n]? =some t/\Q (.aG (decide (kindOf t.tok=k))) H
def lT:uq Z Z.DU 1 E':=by refine m0 ["self","kind"] Z.DU (λc nd f b=>(az (aT (kk (fF rfl b) (aC K (aQ K (aC K (ah 0)) (aC K (ah 0)))) (ah 1) (bZ _))))) λH vs Q E h=>zi0 λ_ _=>?_;let(r,j,T,us,l,n,m,t,rfl,z,i,k):=h;let(c,g,d,_):=z;rfl';let(u,f,o,a,p,rfl,e):=d.get i;refine fld c Z.hc.reader (by simp) rfl (fld c Z.hc.reader (by simp) rfl ?_);refine aZ (au.of (c_ g)) f (fld (c_ e) Z.hc.token (by simp) rfl ?_);calc k
def Fa:bt:=λK ad vs H Q _=>∃r b T us a n t,vs=[.ref r]/\ei ad H r b T us a n/\a[n]? =some t/\Q (.int t.place) H
def uz:uq Z Z.DV 1 Fa:=by refine m0 ["self"] Z.DV (λb nd e f=>(az (aT (aC K (aQ K (aC K (ah 0)) (aC K (ah 0))))))) λH vs Q E h=>zi0 λ_ _=>?_;let(r,j,T,us,l,n,t,rfl,z,i,k):=h;let(b,g,c,_):=z;rfl';let(u,e,m,a,o,rfl,d):=c.get i;refine fld b Z.hc.reader (by simp) rfl (fld b Z.hc.reader (by simp) rfl ?_);refine aZ (au.of (c_ g)) e (fld (c_ d) Z.hc.token (by simp) rfl ?_);calc k
def Fb:bt:=λK ad vs H Q E=>∃r b T us a n k t,vs=[.ref r,.str k]/\ei ad H r b T us a n/\a[n]? =some t/\if kindOf t.tok=k then∀u ai,aw (del H r) (del ai r)->(t.tok≠.halt_->ei ad ai r b T us a (n+1))->jL ad (del ai r) u t->Q u ai else kM ad E (del H r) {3,t.place}
def gx:NQ Z Z.DW 2 Fb:=by
 refine cA ["self","kind","token"] Z.DW λH vs Q E i nd j d out f own h=>{_,(ax (bB (jt (b9 (cY (lT Z) (i.mono (by decide)) dt (ah 0) (av (ah 1))))) (az (gr (k:=0) out Z.e5 rfl (i.mono (by decide)) rfl Z.f7 (aD (bG Z.Nv) (av (t2 (uz Z) (i.mono (by decide)) dt (ah 0)))))) bI) (ax (aV 2 nd (aQ K (aC K (ah 0)) (aC K (ah 0)))) (ax (Ju (ah 0) aJ Jw) (az (aT (ah 2)))))),zi0 λ_ _=>?_};let(r,b,T,us,l,n,m,t,rfl,c,g,k):=h;rfl';have a:=c.eC;refine{b,_,a,rfl,r,b,T,us,l,n,m,t,rfl,c,g,?_};symm;by_cases e:kindOf t.tok=m;rw[Xm e,WM Bool.noConfusion];rw[WO e]at k;have k:=k;let(u,j,z):=c.all.get g;refine fld a Z.hc.reader (by simp) rfl (fld a Z.hc.reader (by simp) rfl ?_);refine aZ (au.of (c_ c.lst)) j {r,ad.Reader,b,_,_,rfl,a,Z.hc.reader.cls,Z.hc.reader.no _ (by simp),rfl,_,_,rfl,rfl,b,_,a,by show 2<1000;decide,?_};have o:aw (del H r) (del (upd H r (.ins ad.Reader b (uy T (n+1)))) r):=by rw[cj];exact aw.refl _
 refine k u (upd H r (.ins ad.Reader b (uy T (n+1)))) o (λp=>c.step o aO (c.halts.end_ n t g p)) ?_;rwa[cj];rw[Xl e,WO rfl];rw[WM e]at k;refine{b,_,a,rfl,r,b,T,us,l,n,t,rfl,c,g,_,_,⟨rfl,rfl⟩,?_};calc gU (di bo k)
end
open VaprbBase (PTok Toks)
def yi{a b:Str}(h:a.length≠b.length):a≠b:=λe=>h (by rw[e])
def Fc b:(a4 b).length=b.length:=by show((b.map (·.toNat)).toArray).size=b.length;nofun
def uA c:(es c).length<=2:=by unfold es;split;decide+kernel;show 1<=2;decide
def uB s(h:a4 (word s)=Str.ofString s)b:a4 b=Str.ofString s↔b=word s:=by rw[<-h];exact{ux,λe=>by rw[e]}
def yj t:kindOf t=("name")↔∃b,t=.name b/\RESERVED.contains b=false:=by
 cases t with|name b=>unfold kindOf;simp only;split;rename_i a;rw[uB "name" (by decide+kernel)];constructor;intro e;rw[e]at a;calc absurd a (by decide+kernel);nofun;nofun|num n=>exact{λh=>absurd (show Str.ofString "number"=Str.ofString "name" from h) (by decide+kernel),λ zz=>by let(b,e,_):=zz;calc nomatch e}|sign c=>refine{λh=>?_,λ zz=>by let(b,e,_):=zz;calc nomatch e};have ae:=uA c;rw[show es c=Str.ofString "name" from h]at ae;calc absurd ae (by decide+kernel)|halt_=>exact{λh=>absurd h (by decide+kernel),λ zz=>by let(b,e,_):=zz;calc nomatch e}
def Fd t:kindOf t=("number")↔∃n,t=.num n:=by
 cases t with|name b=>refine{λh=>?_,λ zz=>by let(b,e):=zz;calc nomatch e};unfold kindOf at h;simp only at h;split at h;rename_i a;rw[(uB "number" (by decide+kernel) b).mp h]at a;calc absurd a (by decide+kernel);calc absurd h (by decide+kernel)|num n=>calc{λh=>⟨n,rfl⟩,λ_=>rfl}|sign c=>refine{λh=>?_,λ zz=>by let(b,e):=zz;calc nomatch e};have ae:=uA c;rw[show es c=Str.ofString "number" from h]at ae;calc absurd ae (by decide+kernel)|halt_=>exact{λh=>absurd h (by decide+kernel),λ zz=>by let(b,e):=zz;calc nomatch e}
def OB t:kindOf t=("end")↔t=.halt_:=by
 cases t with|name b=>refine{λh=>?_,λe=>nomatch e};unfold kindOf at h;simp only at h;split at h;rename_i a;rw[(uB "end" (by decide+kernel) b).mp h]at a;calc absurd a (by decide+kernel);calc absurd h (by decide+kernel)|num n=>calc{λh=>absurd (show Str.ofString "number"=Str.ofString "end" from h) (by decide+kernel),λe=>nomatch e}|sign c=>refine{λh=>?_,λe=>nomatch e};have ae:=uA c;rw[show es c=Str.ofString "end" from h]at ae;calc absurd ae (by decide+kernel)|halt_=>calc{λh=>rfl,λ_=>rfl}
def Fe s(ae:a4 (word s)=Str.ofString s)(ag:RESERVED.contains (word s)=true)(f:2<(Str.ofString s).length)(g:Str.ofString s≠ "name")(a:Str.ofString s≠ "number")(d:Str.ofString s≠ "end")t:kindOf t=Str.ofString s↔t=.name (word s):=by
 cases t with|name b=>unfold kindOf;simp only;split;rw[uB s ae];nofun;grind|num n=>calc{λh=>absurd h.symm a,λe=>nomatch e}|sign c=>refine{λh=>?_,λe=>nomatch e};have hl:=uA c;rw[show es c=Str.ofString s from h]at hl;lia|halt_=>calc{λh=>absurd h.symm d,λe=>nomatch e}
def OC(hd:d≠1):es c=es d↔c=d:=by refine{λh=>?_,λe=>by rw[e]};unfold es at h;split at h;have:=congrArg Str.length h;exact absurd this (by show¬(Str.ofString "->").length=1;decide+kernel);nofun
def OD:es c=("->")↔c=1:=by refine{λh=>?_,λe=>by rw[e];rfl};unfold es at h;split at h;nofun;have:=congrArg Str.length h;exact absurd this (by show¬1=(Str.ofString "->").length;decide+kernel)
def Ff z d(hz:∀c,es c=z↔c=d)(ag:∀b,RESERVED.contains b=true->a4 b≠z)(g:z≠ "name")(a:z≠ "number")(f:z≠ "end")t:kindOf t=z↔t=.sign d:=by
 cases t with|name b=>refine{λh=>?_,λe=>nomatch e};unfold kindOf at h;grind|num n=>calc{λh=>absurd h.symm a,λe=>nomatch e}|sign c=>exact{λh=>by rw[(hz c).mp h],λe=>by injection e with e;calc(hz c).mpr e}|halt_=>calc{λh=>absurd h.symm f,λe=>nomatch e}
def OE:∀b,RESERVED.contains b=true->2<=b.length:=by
 have key:∀b∈RESERVED,2<=b.length:=by decide+kernel
 nofun
def OG:∀b,RESERVED.contains b=true->b≠ [45,62]:=by
 have key:∀b∈RESERVED,b≠ [45,62]:=by decide+kernel
 nofun
def lU d(hd:d≠1)t:kindOf t=es d↔t=.sign d:=by
 have e:es d={#[d]}:=by unfold es;rw[WM hd]
 have hl:(es d).length=1:=by rw[e];rfl
 refine Ff _ d (λc=>OC hd) (λb a z=>?_) ?_ ?_ ?_ t;have:=OE b a;rw[<-Fc b,z,hl]at this;nofun;calc yi (by rw[hl];decide+kernel);calc yi (by rw[hl];decide+kernel);calc yi (by rw[hl];decide+kernel)
def OH t:kindOf t=("->")↔t=.sign 1:=by refine Ff _ 1 (λc=>OD) (λb a z=>?_) (by decide+kernel) (by decide+kernel) (by decide+kernel) t;refine OG b a (ux ?_);rw[z];decide+kernel
def OI t:kindOf t=("chance")↔t=.name (word "chance"):=Fe "chance" (by decide+kernel) (by decide+kernel) (by decide+kernel) (by decide+kernel) (by decide+kernel) (by decide+kernel) t
def OJ t:kindOf t=("tell")↔t=.name (word "tell"):=Fe "tell" (by decide+kernel) (by decide+kernel) (by decide+kernel) (by decide+kernel) (by decide+kernel) (by decide+kernel) t
def lV{l:Toks}(h:kindOf t.tok=z↔t.tok=x):VaprbBase.next x (t::l)=decide (kindOf t.tok=z):=by show(t.tok==x)=_;grind
def rJ{l:Toks}(h:kindOf t.tok=z↔t.tok=x):VaprbBase.take x (t::l)=if kindOf t.tok=z then .ok l else .error {3,t.place}:=by unfold VaprbBase.take;rw[lV h];by_cases e:kindOf t.tok=z;nofun;rw[WM e,WM (by nofun)];rfl
def Fg t(l:Toks):nameNext (t::l)=decide (kindOf t.tok=("name")):=by
 rw[Xu,decide_eq_true_eq,yj];let(p,k):=t;cases k with|name b=>show(!RESERVED.contains b)=true↔_;nofun|num n=>exact{λh=>absurd (show false=true from h) (by decide),λ zz=>by let(b,e,_):=zz;calc nomatch e}|sign c=>exact{λh=>absurd (show false=true from h) (by decide),λ zz=>by let(b,e,_):=zz;calc nomatch e}|halt_=>exact{λh=>absurd (show false=true from h) (by decide),λ zz=>by let(b,e,_):=zz;calc nomatch e}
def uC{l:Toks}(h:kindOf t.tok=("name":Str)):∃b,t.tok=.name b/\takeName (t::l)=.ok (⟨t.place,b⟩,l):=by let(b,e,a):=(yj _).mp h;let(p,k):=t;subst e;refine{b,rfl,?_};show(if RESERVED.contains b=true then _ else _)=_;grind
def rK{l:Toks}(h:¬kindOf t.tok=("name":Str)):takeName (t::l)=.error {3,t.place}:=by
 let(p,k):=t;cases k with|name b=>
  have a:RESERVED.contains b=true:=by
   cases z:RESERVED.contains b with|true=>rfl|false=>exact absurd ((yj _).mpr ⟨b,rfl,z⟩) h
  show(if RESERVED.contains b=true then _ else _)=_;rw[WO a];rfl|num n=>rfl|sign c=>rfl|halt_=>rfl
def Fh{l:Toks}(h:kindOf t.tok=("number":Str)):∃z,t.tok=.num z/\takeNum (t::l)=.ok ((t.place,z),l):=by let(b,e):=(Fd _).mp h;let(p,k):=t;subst e;calc⟨b,rfl,rfl⟩
def Fi{l:Toks}(h:¬kindOf t.tok=("number":Str)):takeNum (t::l)=.error {3,t.place}:=by
 let(p,k):=t;cases k with|name b=>rfl|num n=>calc absurd ((Fd _).mpr ⟨n,rfl⟩) h|sign c=>rfl|halt_=>rfl
def Fj{α a:Type}x(f:α->Except VaprbBase.Fault a):(Except.ok x>>=f)=f x:=rfl
section
variable {P:Program}{w:World}{K:PySem.W.Frag}{mg:Str->Option Value}{base:Heap}{ad:bC}{bx:hk} (Z:fS P w K mg base ad bx)
def uD(ad:bC)(R:Re α)(H:am)(r b T:Addr)(us:List V)(a:Toks)(Q:aE)(E:b8):Except VaprbBase.Fault (α×Toks)->Prop|.ok (x,l)=>∀u ai m,aw (del H r) (del ai r)->ei ad ai r b T us a m->l=a.drop m->R (del ai r) u x->Q u ai|.error f=>kM ad E (del H r) f
def pg(ad:bC)(R:Re α)(g:Toks->Except VaprbBase.Fault (α×Toks)):bE:=λvs H Q E=>∃r b T us a n,vs=[.ref r]/\ei ad H r b T us a n/\uD ad R H r b T us a Q E (g (a.drop n))
def fj{a:Toks}(b:ei ad H r c T us a n):∃t,a[n]? =some t/\a.drop n=t::a.drop (n+1):={a[n]'b.lt,WK b.lt,X5 b.lt}
def nz{b:Toks}(c:ei ad H r a T us b n)(e:b[n]? =some t)(q:Q (.aG (decide (kindOf t.tok=k))) H):
  ∃x d,H r=some (bH.ins ad.Reader x d)/\List.lookup (Str.ofString "sees") d=none/\E' K ad [.ref r,.str k] H Q E:={a,_,c.eC,rfl,r,a,T,us,b,n,k,t,rfl,c,e,q}
def yk{b:Toks}(c:ei ad H r a T us b n)(e:b[n]? =some t)(q:Q (.int (t.place:Int)) H):
  ∃x d,H r=some (bH.ins ad.Reader x d)/\List.lookup (Str.ofString "here") d=none/\Fa K ad [.ref r] H Q E:={a,_,c.eC,rfl,r,a,T,us,b,n,t,rfl,c,e,q}
def gy{b:Toks}(c:ei ad H r a T us b n)(e:b[n]? =some t)(f:kindOf t.tok=k->∀u ai,aw (del H r) (del ai r)->(t.tok≠.halt_->ei ad ai r a T us b (n+1))->jL ad (del ai r) u t->Q u ai)
  (no:¬kindOf t.tok=k->kM ad E (del H r) {3,t.place}):∃x d,H r=some (bH.ins ad.Reader x d)/\List.lookup (Str.ofString "take") d=none/\Fb K ad [.ref r,.str k] H Q E:=by
 refine{a,_,c.eC,rfl,r,a,T,us,b,n,k,t,rfl,c,e,?_};nofun
def hq(hc:ef K ad)(h:H p=some (.ins ad.Token ao (tokF t a)))(e:valOf t.tok=v)(q:Q v H):ed K (Str.ofString "value") p H Q:=
 fld h hc.token (by simp) (by subst e;rfl) q
def ph(hc:ef K ad)(h:H p=some (.ins ad.Token ao (tokF t a)))(q:Q (.int (t.place:Int)) H):ed K (Str.ofString "place") p H Q:=
 fld h hc.token (by simp) rfl q
def gW{t:PTok}(h:kindOf t.tok=k)(e:k≠ "end"):t.tok≠.halt_:=λz=>e (by rw[<-h,z];rfl)
def uE{α:Type}a(l:List α):(a::l).drop 1=l:=rfl
def ei.grow{b:Toks}(h:ei ad H r a T us b n)(s:aw H ai):ei ad ai r a T us b n:= h.step (c2 s) (s _ _ h.eC) h.lt
def OK(h:gu K H v q)(b:H r=some (.ins C ao fs)):gu K (del H r) v q:=by
 let(a,e,h):=h;refine{a,e,?_};rcases h with(h|⟨o,h⟩)|h;calc .inl (.inl (by rwa[bf λz=>by rw[z,b]at h;cases h]));calc .inl (.inr {o,by rwa[bf λz=>by rw[z,b]at h;cases h]});calc .inr h
def hr(K:PySem.W.Frag):Re VaprbBase.Frac:=λH v f=>gu K H v (f.num,f.den)/\d5 f
def ht:c7 (hr K):=λH aj v f s h=>{C2 H aj v _ s h.1,h.2}
def Fk(h:1<=d):low z d=((frac z d.toNat).num,((frac z d.toNat).den:Int)):=by
 obtain⟨n,rfl⟩:∃n:Nat,d=n:={d.toNat,by grind};unfold low frac;show(z/((Nat.gcd z.natAbs n)),n/((Nat.gcd z.natAbs n):Int))=_;(split<;>nofun)
def rL(l:Toks):Except VaprbBase.Fault (VaprbBase.Frac×Toks):=(takeFrac l).map λx=>(x.1.2,x.2)
def OL(K:PySem.W.Frag)(ad:bC):bE:=pg ad (hr K) rL
def Fl:ho Z Z.D6 3 OL:=by refine cB ["reader","top","bottom"] Z.D6 λH vs Q E j nd q s out c own h=>{_,(zx0 (aV 1 nd (aC K (cY (gx Z) (j.mono (by decide)) c (ah 0) (av (bG Z.x_))))) (ax (bB (jt (b9 (cY (lT Z) (j.mono (by decide)) dt (ah 0) (av dQ)))) (az (aT (kG (aD (ah 1) (av aJ))))) bI) (zx0 (dv (cY (gx Z) (j.mono (by decide)) c (ah 0) (av dQ))) (zx0 (aV 2 nd (cY (gx Z) (j.mono (by decide)) c (ah 0) (av (bG Z.x_)))) (ax (bB (b1 io (aC K (ah 2)) aJ (bZ _)) (az (gr (k:=0) out Z.e5 rfl (j.mono (by decide)) rfl Z.f7 (aD (bG Z.E1) (av (aC K (ah 2)))))) bI) (az (aT (a5 (jJ Z) j (aD (ah 1) (av (aC K (ah 2)))))))))))),zi0 λ_ _=>?_};clear nd q s own c out;let(r,jM,T,us,P,n,rfl,w,k):=h;rfl';let(t,G,hd):=fj w;rw[hd]at k;rfl';refine gy w G (λe u ai I b q=>?_) λe=>?_;let(z,J,V):=Fh (l:=P.drop (n+1)) e;unfold rL takeFrac at k;rw[V]at k;erw[Fj]at k;have b:=b (gW e (by decide+kernel));let(uF,a,OM,rfl,q):=q;refine hq Z.hc (c_ q) (congrArg valOf J) ?_;rfl';let(R,x,y):=fj b;rw[y]at k;rw[lV (lU 47 (by decide) R.tok),show es 47=Str.ofString "/" from rfl]at k;have k:=k;refine nz b x ?_;symm;by_cases m:kindOf R.tok=Str.ofString "/";rw[Xm m,WM Bool.noConfusion];rw[WO (Xm m),uE]at k;rfl';refine gy b x (λ_ qo S o f W=>?_) λz=>absurd m z;rfl';have f:=f (gW m (by decide+kernel));let(X,A,L):=fj f;rw[L]at k;have k:=k;refine gy f A (λC U6 dj Y g d=>?_) λC=>?_;rfl';let(D,i,M):=Fh (l:=P.drop (n+1+1+1)) C;rw[M]at k;erw[Fj]at k;have g:=g (gW C (by decide+kernel));let(U7,s8,U8,rfl,d):=d;refine hq (v:=.int D) Z.hc (c_ d) (congrArg valOf i) ?_;symm;have B:=I.trans (o.trans Y);by_cases F:D<1;rw[WO F];rw[WO F]at k;refine ph Z.hc (c_ d) {_,_,⟨rfl,rfl⟩,?_};calc gU (di (B.trans bo) k);rw[WM F];rw[WM F]at k;have k:=k;have aq:=(w.halts.ok X (WS A)).num D i;refine hq (v:=.int D) Z.hc (c_ d) (congrArg valOf i) {_,_,rfl,by omega,{Xn aq (by decide+kernel)},λv U N eu=>?_};refine k v U (n+1+1+1) (B.trans (c2 N)) (g.grow N) rfl ?_;refine{?_,s_ ((w.halts.ok t (WS G)).num z J) (by omega) (by lia)};show gu K (del U r) v _;rw[<-Fk (by nofun)];calc OK eu (g.grow N).eC;rw[Fi C]at k;calc di (I.trans o) k;rw[Xl m,WO rfl];rw[WM (by nofun)]at k;refine{by decide+kernel,λp S np o O=>?_};refine k _ S (n+1) (I.trans (c2 o)) (b.grow o) y.symm {{p,rfl,bJ.of ?_},we ((w.halts.ok t (WS G)).num z J)};rw[bf λz=>by erw[z,(b.grow o).eC]at O;cases O];calc O;unfold rL takeFrac at k;rw[Fi e]at k;calc k
end
open Vaprbq (RawStep RawNode)
section
variable {P:Program}{w:World}{K:PySem.W.Frag}{mg:Str->Option Value}{base:Heap}{ad:bC}{bx:hk} (Z:fS P w K mg base ad bx)
def ON:jI Z Z.DX 1 (lQ ad.ReadStep ["name","weight"]):=by
 refine a6 ["self","name","weight"] Z.DX (λc nd d a=>(ax (cN K (ah 0) (ah 1)) (az (cN K (ah 0) (ah 2))))) λH vs Q E h=>?_;let(p,ao,us,rfl,hl,b,k):=h;let(e,f,rfl):=zl2 hl;rfl';refine cO b Z.hc.readStep (by simp) (by decide) (cO aO Z.hc.readStep (by simp) (by show 1<1000;decide) ?_);simp[gk];calc k
def OO:jI Z Z.DY 1 (lQ ad.ReadState ["name","worth","steps"]):=by
 refine a6 ["self","name","worth","steps"] Z.DY (λc nd d a=>(ax (cN K (ah 0) (ah 1)) (ax (cN K (ah 0) (ah 2)) (az (cN K (ah 0) (ah 3)))))) λH vs Q E h=>?_;let(p,ao,us,rfl,hl,b,k):=h;let(e,f,g,rfl):=zl3 hl;rfl';refine cO b Z.hc.readState (by simp) (by decide) (cO aO Z.hc.readState (by simp) (by show 1<1000;decide) (cO aO Z.hc.readState (by simp) (by show 2<1000;decide) ?_));simp[gk];calc k
def OP:jI Z Z.DZ 1 (lQ ad.ReadChain ["title","states","start"]):=by
 refine a6 ["self","title","states","start"] Z.DZ (λc nd d a=>(ax (cN K (ah 0) (ah 1)) (ax (cN K (ah 0) (ah 2)) (az (cN K (ah 0) (ah 3)))))) λH vs Q E h=>?_;let(p,ao,us,rfl,hl,b,k):=h;let(e,f,g,rfl):=zl3 hl;rfl';refine cO b Z.hc.readChain (by simp) (by decide) (cO aO Z.hc.readChain (by simp) (by show 1<1000;decide) (cO aO Z.hc.readChain (by simp) (by show 2<1000;decide) ?_));simp[gk];calc k
def uG(ad:bC):Re PName:=λH v p=>jL ad H v {p.place,.name p.name}
def nA(K:PySem.W.Frag)(ad:bC):Re RawStep:=λH v s=>∃a ao b c,v=.ref a/\H a=some (.ins ad.ReadStep ao [("name",b),("weight",c)])/\uG ad H b s.to/\hr K H c s.weight
def uH:c7 (uG ad):=λH aj v p s h=>lS H aj v _ s h
def nB:c7 (nA K ad):=λH aj v x s zz=>by let(a,ao,b,c,e,h,ae,ag):=zz;calc {a,ao,b,c,e,s _ _ h,uH _ _ _ _ s ae,ht _ _ _ _ s ag}
def yl{t:PTok}{b:List UInt8}(h:t.tok=.name b):t={t.place,.name b}:=by let(p,k):=t;nofun
def OQ(K:PySem.W.Frag)(ad:bC):bE:=pg ad (nA K ad) d1
def Fm:ho Z Z.D5 4 OQ:=by
 refine cB ["reader","name","first","weight"] Z.D5 λH vs Q E o nd B p out c own h=>{_,(zx0 (aV 1 nd (cY (gx Z) (o.mono (by decide)) c (ah 0) (av (bG Z.nv)))) (zx0 (dv (cY (gx Z) (o.mono (by decide)) c (ah 0) (av dQ))) (ax (aV 2 nd (t2 (uz Z) (o.mono (by decide)) dt (ah 0))) (ax (aV 3 nd (f6 (Fl Z) o c (av (ah 0)))) (zx0 (bB (b1 io (aQ K (ah 3) aJ) aJ (bZ _)) (az (gr (k:=0) out Z.e5 rfl (o.mono (by decide)) rfl Z.f7 (aD (bG Z.E1) (av (ah 2))))) bI) (az (aT (hX (ON Z) (o.mono (by decide)) rfl (aD (ah 1) (av (ah 3))))))))))),zi0 λ_ _=>?_};clear nd B p own c out;let(r,W,T,us,C,n,rfl,P,k):=h;rfl';let(t,X,hd):=fj P;rw[hd]at k;unfold d1 at k;rfl';refine gy P X (λe u ai D g B=>?_) λe=>?_;rfl';let(b,Y,cx):=uC (l:=C.drop (n+1)) e;rw[cx]at k;simp[aF]at k;have g:=g (gW e (by decide+kernel));let(rM,F,G):=fj g;unfold takeSign at k;rw[G,rJ (lU 58 (by decide) rM.tok),show es 58=Str.ofString ":" from rfl]at k;have k:=k;refine gy g F (λw qo bU I d _=>?_) λw=>?_;rfl';rw[WO w]at k;simp[aF]at k;rfl';have d:=d (gW w (by decide+kernel));let(t3,J,L):=fj d;refine yk d J {r,W,T,us,C,_,rfl,d,?_};unfold takeWeight at k;unfold rL;cases M:takeFrac (C.drop (n+1+1))with|error f=>rw[M]at k;calc di (D.trans I) k|ok x=>
  rw[M]at k;simp[aF]at k;have k:=k;let(_,U9,i,N):=qz M;rw[L,ZL]at i;cases i;refine λv dj m R q hm S=>?_;let(a,rfl,df):=S.1;rfl';refine d_ (d9 bo df) rfl ?_;symm;have s:=D.trans (I.trans R);by_cases U:x.1.2.num<0;rw[WO U]at k⊢;rw[<-N]at k;refine{_,_,⟨rfl,rfl⟩,?_};calc gU (di (s.trans bo) k);rfl';rw[WM U]at k⊢;simp[aF]at k;have k:=k;rfl';refine λy f9 dZ V A aN=>?_;have O:y≠r:=λz=>by rw[z,q.eC]at V;cases V
  refine k _ dZ m (s.trans (c2 A)) (q.grow A) hm {y,f9,u,.ref a,rfl,by rwa[bf O],?_,ht _ _ _ _ (c2 A) S};have:=lS _ _ _ _ ((I.trans R).trans (c2 A)) B;rwa[yl Y]at this
 rw[WM w]at k;calc di D k;rwa[rK e]at k
def OR(K:PySem.W.Frag)(ad:bC):bE:=pg ad (hr K) fO
def OS:ho Z Z.D3 4 OR:=by
 refine cB ["reader","worth"] Z.D3 λH vs Q E g nd y c out a own h=>{_,(ax (bB (jt (b9 (cY (lT Z) (g.mono (by decide)) dt (ah 0) (av dQ)))) (az (aT (ja Z.hn rfl))) bI) (zx0 (dv (cY (gx Z) (g.mono (by decide)) a (ah 0) (av dQ))) (zx0 (aV 1 nd (f6 (Fl Z) g a (av (ah 0)))) (ax (dv (cY (gx Z) (g.mono (by decide)) a (ah 0) (av dQ))) (az (aT (ah 1))))))),zi0 λ_ _=>?_};clear nd y c own a out;let(r,F,T,us,l,n,rfl,i,k):=h;rfl';let(t,A,hd):=fj i;unfold fO at k;simp only[hd,lV (lU 91 (by decide) t.tok),show es 91=Str.ofString "[" from rfl,uE]at k;rfl';refine nz i A ?_;symm;by_cases e:kindOf t.tok=Str.ofString "[";rw[Xm e,WM Bool.noConfusion];rw[WO (Xm e)]at k;have k:=k;rfl';refine gy i A (λ_ u ai o b y=>?_) λz=>absurd e z;rfl';have b:=b (gW e (by decide+kernel));refine{r,F,T,us,l,_,rfl,b,?_};unfold rL;cases B:takeFrac (l.drop (n+1))with|error f=>rw[B]at k;calc di o k|ok x=>rw[B]at k;simp[aF]at k;have k:=k;refine λv K m C d p G=>?_;rfl';let(I,q,s):=fj d;have p:=p;unfold takeSign at k;rw[p,s,rJ (lU 93 (by decide) I.tok),show es 93=Str.ofString "]" from rfl]at k;have k:=k;refine gy d q (λj L J D w _=>?_) λj=>?_;rw[WO j]at k;calc k v J (m+1) (o.trans (C.trans D)) (w (gW j (by decide+kernel))) rfl (ht _ _ _ _ D G);rw[WM j]at k;exact di (o.trans C) k
 rw[Xl e,WO rfl];rw[WM (by nofun)]at k;calc k _ H n (aw.refl _) i hd.symm {{bx.x6,rfl,Z.hn.2 _},wd}
def OT:Re Bool:=λ_ v b=>v=.aG b
def OU:c7 OT:=λ_ _ _ _ _ h=>h
def ew{f:a->α}{us:List α}{zs:List a}(h:bw (λv z=>v=f z) us zs):us=zs.map f:=by
 apply List.ext_getElem?;intro i;rw[WG];cases hz:zs[i]? with|none=>have:=Yl.mp hz;rw[Yl.mpr (by rwa[h.1])];rfl|some z=>let(x,b,r):=h.get hz;nofun
def ym(h:d5 f):decide ([f.num,f.den]=[0,1])=(f.num==0):=by rw[Xu,YB];constructor;nofun;intro e;have:=h.iF;rw[e,Int.natAbs_zero,Nat.coprime_zero_left]at this;nofun
def uI H(a b):del (del H a) b=del (del H b) a:=by unfold del;grind
def yn t(l:Toks):VaprbBase.here (t::l)=t.place:=rfl
def OV[Decidable a]{A X:Prop}b(c:(a->b=false)->X)(d:a->(b=false->X)->A):if a then A else X:=by nofun
def OW(K:PySem.W.Frag)(ad:bC):bE:=pg ad (cv (nA K ad)) fb
def OX:ho Z Z.D4 5 OW:=by
 refine cB ["reader","arrow","steps","step"] Z.D4 λH vs Q E B nd bg F out i own h=>{_,(ax (bB (jt (b9 (cY (lT Z) (B.mono (by decide)) dt (ah 0) (av dQ)))) (az (aT (bN i4))) bI) (zx0 (aV 1 nd (cY (gx Z) (B.mono (by decide)) i (ah 0) (av dQ))) (ax (aV 2 nd (bN (av (f6 (Fm Z) B i (av (ah 0)))))) (ax (hK own (b9 (cY (lT Z) (B.mono (by decide)) dt (ah 0) (av dQ))) (ax (dv (cY (gx Z) (B.mono (by decide)) i (ah 0) (av dQ))) (ax (bB (dP.pt (i1 (b1 (fF (K:=K) rfl F) (cm K Z.cf (ah 2)) (bG Z.Nr) (bZ _)) (i0 (b9 (cY (lT Z) (B.mono (by decide)) dt (ah 0) (av (bG Z.nv))))))) (az (gr (k:=0) out Z.e5 rfl (B.mono (by decide)) rfl Z.f7 (aD (bG Z.E0) (av (t2 (uz Z) (B.mono (by decide)) dt (ah 0)))))) bI) (az (dv (gS (ah 2) (av (ck (f6 (Fm Z) B i (av (ah 0))))))))))) (ax (bB (dP.pt (i1 (b9 (cY (lT Z) (B.mono (by decide)) dt (ah 0) (av dQ))) (i0 (b9 (gm (k_all (K:=K) rfl rfl) (by rfl) Z.Nc PyProof.Rows.Boot.«all» (av (dz rfl nd (cH K (ah 2)) (cM (own:=[("step",3)]) (by kernel_rfl)) (λ_ _ _ _ _=>b3 3 nd) (λ_ _ _ _ _=>dh) λ_ _ _ _ _=>ck (kk (fF (K:=K) rfl F) (aC K (ah 3)) (ja Z.hn rfl) (bZ _))))))))) (az (gr (k:=0) out Z.e5 rfl (B.mono (by decide)) rfl Z.f7 (aD (bG Z.Nz) (av (aC K (ah 1)))))) bI) (az (aT (ah 2)))))))),zi0 λ_ _=>?_};clear nd bg F own i out;let(r,jM,T,us,d,n,rfl,nC,k):=h;rfl';have⟨t,bW,hd⟩:=fj nC;unfold fb at k;rw[hd,lV (OH t.tok),uE]at k;rfl';refine nz nC bW ?_;symm;by_cases e:kindOf t.tok=Str.ofString "->";rw[Xm e,WM Bool.noConfusion];rw[WO (Xm e)]at k;rfl';refine gy nC bW (λ_ u ai X P bg=>?_) λz=>absurd e z;rfl';have P:=P (gW e (by decide+kernel));rw[qA _ (d.length+2) 0 (d.drop (n+1)) (by grind) (by grind)]at k;generalize Y:takeSteps (d.length+2) 0 (d.drop (n+1))=W at k;rw[hF,WM λz=>absurd z.2 (by decide)]at Y;refine{r,jM,T,us,d,_,rfl,P,?_};cases dW:d1 (d.drop (n+1))with
 |error f=>rw[dW]at Y;rw[<-Y]at k;calc di X k
 |ok fK=>
  have⟨gh,nf⟩:=fK;rw[dW]at Y;erw[aF]at Y;refine λv bU m s3 S hm eu=>{by decide+kernel,λD dj fH s4 bP=>?_};subst hm;have Fn:T≠D:=λz=>by have:=c_ S.lst;rw[z,fH]at this;cases this
  have Fo:r≠D:=λz=>by have:=S.eC;rw[z,fH]at this;cases this
  refine kJ (λrN aa aj=>∃b g m,aa=[some (.ref r),some u,some (.ref D),none]/\aj D=some (.lst b)/\aw (del ai r) (del (del aj D) r)/\ei ad (del aj D) r jM T us d m/\bw (nA K ad (del (del aj D) r)) b g/\g.length<=8/\
    W=(if VaprbBase.next (.sign 44) (d.drop m)=true then oh g (takeSteps (d.length+1) g.length ((d.drop m).drop 1))else .ok (g,d.drop m))/\rN=d.length-m)
   (λaa aj=>∃b g m,aa=[some (.ref r),some u,some (.ref D),none]/\aj D=some (.lst b)/\aw (del ai r) (del (del aj D) r)/\ei ad (del aj D) r jM T us d m/\bw (nA K ad (del (del aj D) r)) b g/\g.length<=8/\W=.ok (g,d.drop m)) (d.length-m)
   {[v],[gh],m,rfl,bP,?_,?_,?_,by show 1<=8;decide,?_,rfl} ?_ ?_
  have e:=gw fH s4;calc s3.trans (c2 e);calc(S.grow s4).yh bP Fn;have e:=gw fH s4;calc(bw.nil (R:=nA K ad (del (del dj D) r))).snoc (nB _ _ _ _ (c2 e) eu);rw[<-Y];rfl;rintro aa aj ⟨b,g,h9,rfl,dx,pi,w,l,lW,c⟩;have I:=w.grow bo;have⟨uJ,OY,Fp⟩:=fj w;have Fq:aw (del H r) (del aj r):=(X.trans pi).trans (c2 bo);have ret:∀gP,aw aj gP->¬(kindOf uJ.tok=Str.ofString ";"/\ig g=true)->Q (.ref D) gP:=by intro gP O J;rw[c]at k;erw[aF]at k;rw[WM]at k;refine k _ gP h9 (Fq.trans (c2 O)) (I.grow O) rfl {D,b,rfl,?_,?_};rw[bf λz=>Fo z.symm];calc O _ _ dx;calc l.imp λx y z=>nB _ _ _ _ ((c2 bo).trans (c2 O)) z;rw[Fp,lV (lU 59 (by decide) uJ.tok),decide_eq_true_eq];exact J
  rfl';refine nz I OY ?_;symm;by_cases lX:kindOf uJ.tok=Str.ofString ";";rw[Xm lX,WO rfl];refine er OU (g.map λs=>s.weight.num==0) ?_ λd3 a9=>?_;rw[WC,WJ];lia;refine ?_;refine a9 D b aj (au.of dx) (by rw[WC];calc l.1) (λj x z G dI aB hz cg q=>?_) λrH gP bs et O uK r2=>?_;rw[WG]at hz;cases hs:g[j]? with
  |none=>rw[hs]at hz;cases hz
  |some Fs=>rw[hs]at hz;cases hz;let(Ft,uL,a,OM,nD,kN,rfl,df,_,hw,fq):=l.get hs;rw[aB]at uL;cases uL;let(jN,rfl,hw):=hw;rfl';refine fld (fl:=["name","weight"]) (cg _ _ (c_ (c_ df))) Z.hc.readStep (by simp) rfl ?_;refine MM (xs:=[Fs.weight.num,(Fs.weight.den:Int)]) (ys:=[0,1]) (d9 ((bo.trans bo).trans cg) hw) (Z.hn.2 _) ?_;rw[ym fq];exact q _ G (aw.refl G) rfl
  have nc:bs=(g.map λs=>s.weight.num==0).map V.aG:=ew r2;subst nc;rfl';refine{rH,_,rfl,au.of uK,?_};symm;have OZ:((g.map λs=>s.weight.num==0).all id)=ig g:=by unfold ig;rw[List.all_map];rfl
  rw[OZ];cases hz:ig g with
  |true=>rw[WO rfl];let(uF,yo,U_,rfl,bg):=bg;refine ph Z.hc (O _ _ (c_ (c_ (pi _ _ bg)))) {_,_,⟨rfl,rfl⟩,?_};rw[c]at k;erw[aF]at k;rw[WO]at k;calc gU (di ((Fq.trans bo).trans O) k);rw[Fp,lV (lU 59 (by decide) uJ.tok),decide_eq_true_eq];calc⟨lX,hz⟩
  |false=>rw[WM W9];exact ret gP O λz=>by rw[hz]at z;exact absurd z.2 W9
  rw[Xl lX,WM W9];calc ret aj (aw.refl _) λz=>lX z.1;rintro rN aa aj ⟨b,g,h9,rfl,dx,pi,w,l,lW,c,O0⟩ C ct hY;have I:=w.grow bo;have⟨t3,Fu,Fv⟩:=fj w;rw[Fv,lV (lU 44 (by decide) t3.tok),show es 44=Str.ofString "," from rfl,uE]at c;rfl';refine nz I Fu ?_;symm;by_cases cS:kindOf t3.tok=Str.ofString ",";rw[Xm cS];rw[WO (Xm cS)]at c;refine ct aj ?_;rfl';refine gy I Fu (λ_ Fw dZ s5 A _=>?_) λz=>absurd cS z;have A:=A (gW cS (by decide+kernel));have L:dZ D=some (.lst b):=by have:=s5 D _ (by rw[bf λz=>Fo z.symm];calc dx);exact c_ this
  have Fx:aw (del H r) (del (del dZ D) r):=(X.trans pi).trans (by rw[uI,uI dZ];calc c2 s5);have⟨pj,Fy,U⟩:=fj A;rw[hF,U,Fg]at c;refine cw (au.of L) ?_;rw[l.1];rfl';refine OV (decide (kindOf pj.tok=("name":Str))) (λJ=>?_) (λuK O1=>?_);rw[WM (λz=>by have E8:g.length=8:=Nat.le_antisymm lW z.2;have:=J (by lia);rw[this]at z;calc absurd z.1 (by decide)),<-U]at c;refine{⟨b,L⟩,D,b,L,r,jM,T,us,d,_,rfl,A.yh L Fn,?_};cases o:d1 (d.drop (h9+1))with
  |error f=>rw[o]at c;rw[c]at k;calc di Fx k
  |ok yp=>
   have⟨yq,yr⟩:=yp;rw[o]at c;erw[aF]at c;refine λnE d7 uM c1 uN M O2 yt=>{b,aO,by rw[l.1,WJ];lia,?_};have O3:=om o;have M:yr=d.drop uM:=M;rw[M,W5,W5]at O3;have E8:g.length<8:=by refine aaC lW λz=>?_;have ak:=J (by nofun);rw[U]at o;unfold d1 at o;rw[rK (of_decide_eq_false ak)]at o;cases o
   have yu:del (upd (upd d7 D (.lst b)) D (.lst (b++[nE]))) D=d7:=by rw[cj,cj,f5 yt]
   have Fz:aw (del (del aj D) r) (del d7 r):=(show aw (del (del aj D) r) (del (del dZ D) r)by rw[uI,uI dZ];calc c2 s5).trans c1;refine{d.length-uM,by lia,b++[nE],aO,?_,g++[yq],uM,?_,?_,?_,?_,rfl};rw[yu];calc pi.trans Fz;rw[yu];calc uN;rw[yu];calc(l.imp λx y z=>nB _ _ _ _ Fz z).snoc O2;rw[WI,XA];lia;rw[c,M];have O4:=uN.lt;by_cases N:VaprbBase.next (.sign 44) (d.drop uM)=true;rw[WO N,WO N,v9,WI,XA,qA d.length (d.length+1) _ _ (by rw[W5,W5];omega) (by rw[W5,W5];omega)];rw[WM N,WM N];rfl
  refine nz A Fy ?_;symm;cases bD:decide (kindOf pj.tok=("name":Str))with
  |true=>rw[WO rfl];rw[bD,WO {rfl,by show 8<=_;lia}]at c;rw[c]at k;refine yk A Fy {_,_,⟨rfl,rfl⟩,?_};calc gU (di (Fx.trans (bo.trans bo)) k)
  |false=>rw[WM W9];exact O1 bD
  rw[Xl cS];rw[WM (by rw[Xl cS];decide)]at c;exact hY aj {b,g,h9,rfl,dx,pi,w,l,lW,by rw[c,Fv]}
 rw[Xl e,WO rfl];rw[WM (by grind)]at k;refine{Xk _,λp ai np X a8=>?_};refine k _ ai n (c2 X) (nC.grow X) hd.symm {p,[],rfl,?_,bw.nil};rw[bf λz=>by rw[z,nC.eC]at np;cases np];calc a8
def jO(K:PySem.W.Frag)(ad:bC):Re RawNode:=λH v x=>∃a ao b c vs,v=.ref a/\H a=some (.ins ad.ReadState ao [("name",b),("worth",c),("steps",vs)])/\uG ad H b x.name/\hr K H c x.worth/\cv (nA K ad) H vs x.steps
def jc:c7 (jO K ad):=λH aj v x s zz=>by let(a,ao,b,c,vs,e,h,ae,ag,d):=zz;calc {a,ao,b,c,vs,e,s _ _ h,uH _ _ _ _ s ae,ht _ _ _ _ s ag,c8 nB _ _ _ _ s d}
def O5(K:PySem.W.Frag)(ad:bC):bE:=pg ad (jO K ad) dD
def FA:ho Z Z.D2 6 O5:=by
 refine cB ["reader","name","worth","steps"] Z.D2 λH vs Q E o nd C p out a own h=>{_,(zx0 (aV 1 nd (cY (gx Z) (o.mono (by decide)) a (ah 0) (av (bG Z.nv)))) (ax (aV 2 nd (f6 (OS Z) o a (av (ah 0)))) (ax (aV 3 nd (f6 (OX Z) o a (av (ah 0)))) (zx0 (dv (cY (gx Z) (o.mono (by decide)) a (ah 0) (av dQ))) (az (aT (hX (OO Z) (o.mono (by decide)) rfl (aD (ah 1) (aD (ah 2) (av (ah 3))))))))))),zi0 λ_ _=>?_};clear nd C p own a out;let(r,M,T,us,g,n,rfl,N,k):=h;rfl';let(t,V,hd):=fj N;erw[hd]at k;have k:=k;unfold dD at k;rfl';refine gy N V (λe u ai s i C=>?_) λe=>?_;rfl';rcases uC (l:=g.drop (n+1)) e with⟨b,W,X⟩;rw[X]at k;simp[aF]at k;have i:=i (gW e (by decide+kernel));refine{r,M,T,us,g,_,rfl,i,?_};cases O:fO (g.drop (n+1))with|error f=>rw[O]at k;calc di s k|ok x=>
  let(f,Y):=x;rw[O]at k;simp[aF]at k;refine λln bU P v F j G=>{r,M,T,us,g,_,rfl,F,?_};have j:=j;subst j;cases hs:fb (g.drop P)with|error f=>erw[hs]at k;calc di (s.trans v) k|ok x=>
   let(ss,yv):=x;rw[hs]at k;simp[aF]at k;refine λv4 dj R w q m I=>?_;rfl';have m:=m;subst m;let(pj,J,K):=fj q;unfold takeSign at k;rw[K,rJ (lU 59 (by decide) pj.tok),show es 59=Str.ofString ";" from rfl]at k;have k:=k;refine gy q J (λA Fw dZ B c _=>?_) λA=>?_;rfl';rw[WO A]at k;simp[aF]at k;rfl';have c:=c (gW A (by decide+kernel));refine λy f9 d7 S U aN=>?_;have L:y≠r:=λz=>by rw[z,c.eC]at S;cases S
   have d:=c2 (D:=r) U;refine k _ d7 (R+1) (s.trans (v.trans (w.trans (B.trans d)))) (c.grow U) rfl {y,f9,u,ln,v4,rfl,by rwa[bf L],?_,?_,?_};have:=lS _ _ _ _ (v.trans (w.trans (B.trans d))) C;rwa[yl W]at this;calc ht _ _ _ _ (w.trans (B.trans d)) G;calc c8 nB _ _ _ _ (B.trans d) I;rw[WM A]at k;exact di (s.trans (v.trans w)) k
 rwa[rK e]at k
theorem yw:∀(n m k)l,l.length<n->l.length<m->d4 n k l=d4 m k l
 |0,_,_,_,h,_=>absurd h (Xv _)|_+1,0,_,_,_,h=>absurd h (Xv _)|n+1,m+1,k,l,ae,ag=>by
  unfold d4;cases a:dD l with|error e=>rfl|ok z=>simp[aF];have:=mL a;rw[yw n m (k+1) z.2 (by lia) (by lia)]
def O6(K:PySem.W.Frag)(ad:bC):bE:=pg ad (cv (jO K ad)) fV
def O7:ho Z Z.D1 7 O6:=by
 refine cB ["reader","states"] Z.D1 λH vs Q E w nd bg q out j own h=>{_,(zx0 (aV 1 nd (bN (av (f6 (FA Z) w j (av (ah 0)))))) (zx0 (hK own (b9 (cY (lT Z) (w.mono (by decide)) dt (ah 0) (av (bG Z.nv)))) (zx0 (bB (b1 (fF rfl q) (cm K Z.cf (ah 1)) (bG Z.Nq) (bZ _)) (az (gr (k:=0) out Z.e5 rfl (w.mono (by decide)) rfl Z.f7 (aD (bG Z.E0) (av (t2 (uz Z) (w.mono (by decide)) dt (ah 0)))))) bI) (az (dv (gS (ah 1) (av (ck (f6 (FA Z) w j (av (ah 0)))))))))) (az (aT (ah 1))))),zi0 λ_ _=>?_};clear nd bg q own j out;let(r,G,T,us,c,n,rfl,nC,k):=h;unfold fV at k;rfl';refine{r,G,T,us,c,_,rfl,nC,?_};cases dW:dD (c.drop n)with|error f=>rwa[dW]at k|ok fK=>
  let(gh,nf):=fK;rw[dW]at k;simp[aF]at k;refine λv bU m s3 l M eu=>{by decide+kernel,λD dj I N bP=>?_};rfl';have M:=M;subst M;have O:T≠D:=λz=>by have:=c_ l.lst;rw[z,I]at this;cases this
  have P:r≠D:=λz=>by have:=l.eC;rw[z,I]at this;cases this
  have B5:=l.lt;rw[yw _ (c.length+1) 1 (c.drop m) (by lia) (by grind)]at k;generalize e6:eZ gh (d4 (c.length+1) 1 (c.drop m))=W at k;refine kJ (λrN aa aj=>∃a i m,aa=[some (.ref r),some (.ref D)]/\aj D=some (.lst a)/\aw (del H r) (del (del aj D) r)/\ei ad (del aj D) r G T us c m/\bw (jO K ad (del (del aj D) r)) a i/\i.length<=24/\
    W=oh i (d4 (c.length+1) i.length (c.drop m))/\rN=c.length-m)
   (λaa aj=>∃a i m,aa=[some (.ref r),some (.ref D)]/\aj D=some (.lst a)/\aw (del H r) (del (del aj D) r)/\ei ad (del aj D) r G T us c m/\bw (jO K ad (del (del aj D) r)) a i/\W=.ok (i,c.drop m)) (c.length-m)
   {[v],[gh],m,rfl,bP,?_,?_,?_,by nofun,?_,rfl} ?_ ?_
  have e:=gw I N;calc s3.trans (c2 e);calc(l.grow N).yh bP O;have e:=gw I N;calc(bw.nil).snoc (jc _ _ _ _ (c2 e) eu);rw[<-e6];rfl;rintro aa aj ⟨a,i,J,rfl,t,u,d,g,b⟩;rfl';have o:=d.grow bo;rfl';rw[b]at k;refine k _ aj J (u.trans (c2 bo)) o rfl {D,a,rfl,?_,?_};rwa[bf λz=>P z.symm];calc g.imp λx y z=>jc _ _ _ _ (c2 bo) z;rintro rN aa aj ⟨a,i,J,rfl,t,u,d,g,U',b,O0⟩ C ct hY;have o:=d.grow bo;let(t3,A,B):=fj d;unfold d4 at b;rw[B,Fg,yn,<-B]at b;rfl';refine nz o A ?_;by_cases L:kindOf t3.tok=Str.ofString "name";rw[Xm L];rw[WO (Xm L)]at b;refine ct aj ?_;rfl';refine cw (au.of t) ?_;rw[g.1];rfl';by_cases Va:i.length=24;rw[WO (by lia)];rw[WO (by show 24<=_;lia)]at b;rw[b]at k;refine yk o A {_,_,⟨rfl,rfl⟩,?_};calc gU (di (u.trans (bo.trans bo)) k);rfl';rw[WM (by lia)];rfl';rw[WM (by show¬24<=_;lia)]at b;rfl';refine({⟨a,t⟩,D,a,t,r,G,T,us,c,_,rfl,d,?_});cases s:dD (c.drop J)with|error f=>rw[s]at b;rw[b]at k;calc di u k|ok yp=>
   let(yq,yr):=yp;rw[s]at b;simp[aF]at b;refine λnE d7 S c1 F p U V=>{a,aO,by rw[g.1,WJ];lia,?_};have X:=mL s;have p:=p;rw[p,W5,W5]at X;have Y:del (upd (upd d7 D (.lst a)) D (.lst (a++[nE]))) D=d7:=by rw[cj,cj,f5 V]
   refine({c.length-S,by nofun,a++[nE],aO,?_,i++[yq],S,?_,?_,?_,?_,rfl});rw[Y];calc u.trans c1;rwa[Y];rw[Y];calc(g.imp λx y z=>jc _ _ _ _ c1 z).snoc U;rw[WI,XA];lia;have O4:=F.lt;rw[b,p,v9,WI,XA,yw c.length (c.length+1) _ _ (by rw[W5];lia) (by rw[W5];lia)]
  rw[Xl L];rw[WM (by rw[Xl L];decide)]at b;refine hY aj {a,i,J,rfl,t,u,d,g,?_};rw[b];show Except.ok _=Except.ok _;rw[XC]
def FC p:ny [{p,.halt_}]:={λn t h e=>by
  cases n with|zero=>injection h with h;subst h;calc absurd rfl e|succ n=>simp at h,λt a=>by
  rw[WQ]at a;subst a;calc{λz e=>(nomatch e),λb e=>(nomatch e)}}
def O8{a:Toks}(h:ny a)(b:0<a.length)(hz:qE t):ny (t::a):={λn u bg e=>by
  cases n with
  |zero=>nofun
  |succ n=>
   have:=h.end_ n u bg e;erw[WL];nofun,λu bg=>by
  rcases WW.mp bg with bg|bg
  nofun;calc h.ok u bg}
theorem uO:∀(n at_)(l:List UInt8)a,lex n at_ l=.ok a->ny a/\0<a.length
 |0,at_,l,a,h=>by
  injection h with h;subst h;calc{FC _,Nat.one_pos}|n+1,at_,[],a,h=>by
  injection h with h;subst h;calc{FC _,Nat.one_pos}|n+1,at_,b::r,a,h=>by
  unfold lex at h;split at h;calc uO n _ _ a h;split at h;calc uO n _ _ a h;split at h;nofun;rename_i t k d;cases ae:lex n (at_+k) ((b::r).drop k)with|error e=>rw[ae]at h;cases h|ok c=>
   rw[ae]at h;let(f,g):=uO n _ _ c ae;injection h with h;subst h;exact{O8 f g ((Ao d).2 at_),by rw[WL];nofun}
def O9{b:List UInt8}(h:tokens b=.ok a):ny a/\0<a.length:=by unfold tokens at h;split at h;nofun;calc uO _ _ _ _ h
def yx(K:PySem.W.Frag)(ad:bC):Re mN:=λH v x=>∃a ao vs b,v=.ref a/\H a=some (.ins ad.ReadChain ao [("title",.str (a4 x.1)),("states",vs),("start",b)])/\cv (jO K ad) H vs x.2.1/\uG ad H b x.2.2
def O_:c7 (yx K ad):=λH aj v x s zz=>by let(a,ao,vs,b,e,h,ae,ag):=zz;calc {a,ao,vs,b,e,s _ _ h,c8 jc _ _ _ _ s ae,uH _ _ _ _ s ag}
def O':bt:=λK ad vs H Q E=>∃v a,vs=[v]/\cv (jL ad) H v a/\ny a/\0<a.length/\Told ad (yx K ad) H Q E (jo a)
def Pa:ho Z Z.D0 8 O':=by
 refine cB ["tokens","reader","title","states","start"] Z.D0 λH vs Q E g nd bg o out a own h=>{_,(zx0 (aV 1 nd (MT (OA Z) (g.mono (by decide)) rfl (av (ah 0)))) (zx0 (dv (cY (gx Z) (g.mono (by decide)) a (ah 1) (av dQ))) (ax (aV 2 nd (aC K (cY (gx Z) (g.mono (by decide)) a (ah 1) (av (bG Z.nv))))) (ax (aV 3 nd (f6 (O7 Z) g a (av (ah 1)))) (zx0 (dv (cY (gx Z) (g.mono (by decide)) a (ah 1) (av dQ))) (ax (aV 4 nd (cY (gx Z) (g.mono (by decide)) a (ah 1) (av (bG Z.nv)))) (ax (dv (cY (gx Z) (g.mono (by decide)) a (ah 1) (av (bG Z.EV)))) (az (aT (hX (OP Z) (g.mono (by decide)) rfl (aD (ah 2) (aD (ah 3) (av (ah 4)))))))))))))),zi0 λ_ _=>?_};clear nd bg o own a out;let(v,n,rfl,z0,aI,h0,k):=h;let(T,us,rfl,gq,J):=z0;rfl';refine λr jM H1 yy s1 L=>?_;rfl';have C:=gw yy s1;have p:ei ad H1 r jM T us n 0:={L,C _ _ gq,J.imp λx y z=>lS _ _ _ _ C z,aI,h0};let(t1,M,q):=fj p;rw[List.drop_zero]at q;unfold jo takeWord at k;rw[q,rJ (OI t1.tok)]at k;have k:=k;refine gy p M (λD oc ai s2 c _=>?_) λD=>?_;rfl';rw[WO D]at k;erw[aF]at k;have k:=k;rfl';have c:=c (gW D (by decide+kernel));let(rM,N,O):=fj c;rw[O]at k;have s:=C.trans s2;refine gy c N (λF qo bU s3 i j=>?_) λF=>?_;rcases uC (l:=n.drop (0+1+1)) F with⟨b,nc,P⟩;rw[P]at k;erw[aF]at k;have k:=k;have i:=i (gW F (by decide+kernel));have t:=s.trans s3;let(Vb,gg,xI,rfl,j):=j;refine hq Z.hc (c_ j) (congrArg valOf nc) {r,jM,T,us,n,_,rfl,i,?_};cases hs:fV (n.drop (0+1+1))with
 |error f=>erw[hs]at k;calc di t k
 |ok Pb=>let(rs,yv):=Pb;rw[hs]at k;erw[aF]at k;refine λv4 dj FD s4 u m R=>?_;subst m;rfl';have w:=t.trans s4;let(pj,S,U):=fj u;rw[U,rJ (OJ pj.tok)]at k;refine gy u S (λG Fw dZ s5 d _=>?_) λG=>?_;rfl';rw[WO G]at k;erw[aF]at k;rfl';have d:=d (gW G (by decide+kernel));have A:=w.trans s5;let(FE,V,W):=fj d;rw[W]at k;have k:=k;refine gy d V (λI Pc d7 c1 e X=>?_) λI=>?_;rcases uC (l:=n.drop (FD+1+1)) I with⟨Vc,Y,Pd⟩;rw[Pd]at k;erw[aF]at k;have e:=e (gW I (by decide+kernel));have B:=A.trans c1;let(Pe,Pf,Pg):=fj e;rw[Pg,lV (OB Pe.tok)]at k;have k:=k;refine gy e Pf (λlX Vd gp dG _ _=>?_) λlX=>?_;rw[WO (Xm lX)]at k;have Ph:=B.trans dG;refine λy f9 gP Ve iq aN=>k _ gP ((Ph.trans bo).trans iq) {y,f9,v4,Pc,rfl,aN,?_,?_};calc c8 jc _ _ _ _ (((s5.trans (c1.trans dG)).trans bo).trans iq) R;have:=lS _ _ _ _ ((dG.trans bo).trans iq) X;rw[yl Y]at this;calc this;rw[WM (by rw[Xl lX];decide),yn]at k;calc di B k;rw[rK I]at k;calc di A k;rw[WM G]at k;exact di w k
 rw[rK F]at k;calc di s k;rw[WM D]at k;calc di C k
end
open Vaprbq (RawStep RawNode placeIn)
section
variable {P:Program}{w:World}{K:PySem.W.Frag}{mg:Str->Option Value}{base:Heap}{ad:bC}{bx:hk} (Z:fS P w K mg base ad bx)
def zN2{o}{f:V->Prop}{v}(e:o=some (some v))(h:f v):L2.zN0 o f:=by rw[e];exact h
def zF{K:PySem.W.Frag}{f g bi D aa a i}{H:am}(e:aa[i]? =some (some (.ref a)))(h:ed K f a H λx H1=>∃p,x=.ref p/\(∃xs,au K H1 p xs)/\kK (oO K p) g bi D aa H1):oQ (lE K (xU K (mY i) f)) g bi D aa H:=by unfold oQ lE xU;exact zN2 e h
def FF l(x:RawNode)(b:List UInt8):placeIn (l++[x]) b=(placeIn l b).or (if x.name.name=b then some l.length else none):=by unfold placeIn;nofun
def FG(o:Option Nat):Option V:=o.map λi=>.int ((i:Nat))
def pk(kvs:List (Key×V))(rs:List RawNode):Prop:=∀b,cr kvs (.inr (a4 b))=FG (placeIn rs b)
def pq(rs:List RawNode):am->V->Prop:=λH v=>∃a kvs,v=.ref a/\H a=some (.b7 kvs)/\pk kvs rs
def FH:(Sum.inr (a4 b):Key)=Sum.inr (a4 c)↔b=c:={λh=>ux (Sum.inr.inj h),λh=>by rw[h]}
def Pj(h:pk kvs l)(a:placeIn l x.name.name=none):pk (putK kvs (.inr (a4 x.name.name)) (.int l.length)) (l++[x]):=by intro b;erw[jA,FF];by_cases e:b=x.name.name;subst e;rw[WO rfl,a,WO rfl];rfl;rw[WM λz=>e (FH.mp z),WM λz=>e z.symm,Option.or_none];calc h b
def Pk(h:pk kvs l)(a:(placeIn l x.name.name).isSome=true):pk kvs (l++[x]):=by intro b;erw[FF,h b];by_cases e:x.name.name=b;let(j,c):=ZJ.mp a;nofun;nofun
def yz o:(FG o).isSome=o.isSome:=by cases o<;>rfl
def FI{kvs:List (Key×V)}:(putK kvs k v).length<=kvs.length+1:=by unfold putK;grind
def rO(hc:ef K ad)(h:H p=some (.ins ad.ReadState ao [("name",x),("worth",y),("steps",z)]))(q:Q x H):ed K (Str.ofString "name") p H Q:=
 fld h hc.readState (by simp) rfl q
def Pl(hc:ef K ad)(h:H p=some (.ins ad.ReadState ao [("name",x),("worth",y),("steps",z)]))(q:Q y H):ed K (Str.ofString "worth") p H Q:=
 fld h hc.readState (by simp) rfl q
def FJ(hc:ef K ad)(h:H p=some (.ins ad.ReadState ao [("name",x),("worth",y),("steps",z)]))(q:Q z H):ed K (Str.ofString "steps") p H Q:=
 fld h hc.readState (by simp) rfl q
def pr(hc:ef K ad)(h:H p=some (.ins ad.ReadStep ao [("name",x),("weight",y)]))(q:Q x H):ed K (Str.ofString "name") p H Q:=
 fld h hc.readStep (by simp) rfl q
def Pm(hc:ef K ad)(h:H p=some (.ins ad.ReadStep ao [("name",x),("weight",y)]))(q:Q y H):ed K (Str.ofString "weight") p H Q:=
 fld h hc.readStep (by simp) rfl q
def Pn:bt:=λK ad vs H Q _=>∃v rs,vs=[v]/\cv (jO K ad) H v rs/\rs.length<=24/\∀u ai,aw H ai->pq rs ai u->Q u ai
def Po:bz Z Z.D9 1 Pn:=by
 refine bX ["states","numbers","number","state"] Z.D9 λH vs Q E I nd o g h=>{_,(zx0 (aV 1 nd rv) (zx0 (dS Xe rfl (ky rfl Z.kL (av (ah 0))) (ee rfl rfl (b0 (cG 2 nd) (b0 (cG 3 nd) ec))) (az (bB (iZ (m_ o (aC K (aC K (ah 3))) (ah 1)) rfl) (az (m' o (ah 1) (aC K (aC K (ah 3))) (ah 2) rfl)) bI))) (az (aT (ah 1))))),zi0 λ_ _=>?_};clear nd o g;let(v,rs,rfl,z0,F,k):=h;let(a,xs,rfl,t,j):=z0;rfl';refine λD u=>?_;rfl';have w:aw H (upd H D (.b7 [])):=fi u;refine{a,xs,rfl,au.of (w _ _ t),?_};generalize f:(λ(i:Nat)(aa:L2.St)(aj:am)=>∃p q kvs,aa=[some (.ref a),some (.ref D),p,q]/\aj D=some (.b7 kvs)/\aw H aj/\pk kvs (rs.take i)/\kvs.length<=i)=Pv;refine pa (xs:=xs) Pv (λi aa aj h=>?_) ?_ (λi aa aj x ai G h m=>?_) λaa aj h=>?_;rw[<-f]at h;let(_,_,_,_,_,s',_):=h;calc au.of (s' _ _ t);rw[<-f];calc{none,none,[],rfl,aO,w,λb=>rfl,W2 _};rw[<-f]at h;let(p,q,kvs,rfl,l,s',ak,hl):=h;let(y,z,r):=j.get' G;have af:=(WH.mp z).1;have c:=s'.trans m;let(b,J,L,M,vs,rfl,A,z1,_):=jc _ _ _ _ c r;let(N,an,O,rfl,B):=z1;rfl';have C:=eh z;have s:(rs.take i).length=i:=by rw[Yp];lia
 refine rO Z.hc A (hq Z.hc B rfl ?_);rfl';refine{_,dA.k (k:=.inr (a4 y.name.name)) (m _ _ l),?_};rw[ak y.name.name,yz];split;rename_i d;refine rO Z.hc A (hq Z.hc B rfl ?_);refine{_,hS.k (k:=.inr (a4 y.name.name)) (m _ _ l) (by rw[WJ];lia),?_};rw[<-f];refine{_,_,_,rfl,aO,hW c u,?_,by have:=FI (kvs:=kvs) (k:=.inr (a4 y.name.name)) (v:=.int (i:Int));lia};have:=Pj (x:=y) ak (by simpa using d);rw[s,<-C]at this;calc this;rename_i e;rw[<-f];refine{_,_,kvs,rfl,m _ _ l,c,?_,by lia};rw[C];calc Pk ak (Option.isSome_iff_ne_none.mpr (by nofun));rfl';rw[<-f]at h;let(p,q,kvs,rfl,l,s',ak,hl):=h;rfl';rw[j.1,XO]at ak;calc k _ aj s' ⟨D,kvs,rfl,l,ak⟩
def yA(kvs:List (Key×V))(a:List (List UInt8)):Prop:=∀b,(cr kvs (.inr (a4 b))).isSome=a.contains b
def Pp(h:yA kvs l):yA (putK kvs (.inr (a4 b)) v) (l++[b]):=by intro c;rw[jA];by_cases e:c=b;nofun;rw[WM λz=>e (FH.mp z),h c,Xu];simp[e]
def FK(ad:bC)(H:am)(Q:aE)(E:b8){α:Type}:dM α->Prop|.ok _=>∀ai,aw H ai->Q .bb ai|.error f=>kM ad E H f
def Pq:bt:=λK ad vs H Q E=>∃v d x rs,vs=[v,d]/\jO K ad H v x/\pq rs H d/\x.steps.length<=8/\FK ad H Q E (stepsOf rs [] x.steps)
def Pr all(a:List (List UInt8))s r:stepsOf all a (s::r)=match placeIn all s.to.name with|none=>.error {6,s.to.place}|some i=>if a.contains s.to.name=true then .error {5,s.to.place}else stepsOf all (a++[s.to.name]) r>>=λl=>.ok ((i,s.weight)::l):=by
 rfl
def Ps:ho Z Z.D' 2 Pq:=by
 refine cB ["state","numbers","earlier","step"] Z.D' λH vs Q E I nd u m out n own h=>{_,(zx0 (aV 2 nd rv) (az (dS own rfl (cH K (aC K (ah 0))) (cG 3 nd) (zx0 (bB (iZ (m_ u (aC K (aC K (ah 3))) (ah 1)) rfl) (az (gr (k:=0) out Z.e5 rfl (I.mono (by decide)) rfl Z.f7 (aD (bG Z.EX) (av (aC K (aC K (ah 3))))))) bI) (zx0 (bB (iZ (BS u (aC K (aC K (ah 3))) (ah 2)) rfl) (az (gr (k:=0) out Z.e5 rfl (I.mono (by decide)) rfl Z.f7 (aD (bG Z.E2) (av (aC K (aC K (ah 3))))))) bI) (az (m' u (ah 2) (aC K (aC K (ah 3))) js rfl))))))),zi0 λ_ _=>?_};clear nd u m own n out;let(v,d,x,rs,rfl,z0,z1,W,k):=h;let(b,S,T,U,vs,rfl,L,_,_,w):=z0;let(M,V,rfl,N,A):=z1;let(as,us,rfl,has,o):=w;rfl';refine λB p=>?_;rfl';have C:aw H (upd H B (.b7 [])):=fi p;refine zF rfl ?_;refine FJ Z.hc (C _ _ L) {as,rfl,{us,au.of (C _ _ has)},?_};generalize q:(λ(i:Nat)(aa:L2.St)(aj:am)=>∃D kvs a,aa=[some (.ref b),some (.ref M),some (.ref B),D]/\aj B=some (.b7 kvs)/\aw H aj/\yA kvs a/\kvs.length<=i/\
  (∀f,stepsOf rs a (x.steps.drop i)=.error f->stepsOf rs [] x.steps=.error f)/\((∃y,stepsOf rs a (x.steps.drop i)=.ok y)->∃y,stepsOf rs [] x.steps=.ok y))=Pv
 refine jG (K:=K) (xs:=us) Pv (λi aa aj h=>?_) ?_ (λi aa aj y r h=>?_) λaa aj h=>?_;rw[<-q]at h;let(_,_,_,_,_,s',_):=h;calc au.of (s' _ _ has);rw[<-q];calc{none,[],[],rfl,aO,C,λb=>rfl,W2 _,λf h=>h,λh=>h};rw[<-q]at h;let(D,kvs,a,rfl,l,s',ak,hl,e,g):=h;let(z,hz,F):=o.get' r;have af:=(WH.mp hz).1;have G:x.steps.drop i=z::x.steps.drop (i+1):=by let(ae,ag):=WH.mp hz;rw[X5 ae,ag]
 rw[G,Pr]at e g;obtain⟨c,X,O,P,rfl,Z.jd,⟨Y,an,yB,rfl,s⟩,_⟩:=nB _ _ _ _ s' F;rfl';refine pr Z.hc Z.jd (hq (v:=.str (a4 z.to.name)) Z.hc s rfl ?_);rfl';refine{_,dA.k (k:=.inr (a4 z.to.name)) (s' _ _ N),?_};rw[A z.to.name,yz];cases J:placeIn rs z.to.name with
 |none=>rw[J]at e;have e:=e;rw[WO (by rfl)];refine pr Z.hc Z.jd (ph Z.hc s {_,_,⟨rfl,rfl⟩,?_});rw[e _ rfl]at k;calc gU (di s' k)
 |some j=>rw[J]at e g;simp only at e g;rfl';rw[WM (by nofun)];rfl';refine pr Z.hc Z.jd (hq (v:=.str (a4 z.to.name)) Z.hc s rfl ?_);refine{_,dA.k (k:=.inr (a4 z.to.name)) l,?_};rw[ak z.to.name];by_cases t:a.contains z.to.name=true;rw[WO t]at e⊢;refine pr Z.hc Z.jd (ph Z.hc s {_,_,⟨rfl,rfl⟩,?_});rw[e _ rfl]at k;calc gU (di s' k);rfl';rw[WM t]at e g⊢;rfl';refine pr Z.hc Z.jd (hq (v:=.str (a4 z.to.name)) Z.hc s rfl ?_);refine{_,hS.k (k:=.inr (a4 z.to.name)) l (by rw[WJ];lia),?_};rw[<-q];exact{_,_,a++[z.to.name],rfl,aO,hW s' p,Pp ak,by have:=FI (kvs:=kvs) (k:=.inr (a4 z.to.name)) (v:=.aG true);lia,λf R=>e f (by rw[R];rfl),λ zz=>by let(y,r):=zz;exact g {_,by rw[r];rfl}}
 rw[<-q]at h;let(D,kvs,a,rfl,l,s',ak,hl,e,g):=h;rw[o.1,YO]at g;let(y,r):=g {[],rfl};erw[r]at k;calc k aj s'
def Pt all(a:List (List UInt8))x r:nodesOf all a (x::r)=if a.contains x.name.name=true then .error {5,x.name.place}else
  stepsOf all [] x.steps>>=λb=>nodesOf all (a++[x.name.name]) r>>=λl=>.ok (⟨x.name.name,x.worth,b⟩::l):=rfl
def FL(b:rs[i]? =some y):placeIn rs y.name.name≠some i↔((rs.take i).map (·.name.name)).contains y.name.name=true:=by unfold placeIn;rw[Ne,X9];let(af,a):=WH.mp b;constructor;intro h;rw[WX,WT];refine WR λc=>h {af,by nofun,λj d=>?_};refine λe=>c {rs[j]'(by lia),?_,eq_of_beq e};rw[aaM];lia;intro h;rw[WX,WT]at h;let(z,hz,e):=h;rw[aaM]at hz;grind
def Pu{i:Nat}(a:rs[i]? =some y):∃j,placeIn rs y.name.name=some j:=by
 unfold placeIn;cases h:rs.findIdx? λx=>x.name.name==y.name.name with
 |some j=>nofun
 |none=>rw[Zy]at h;have:=h y (WS a);simp at this
def Pw:bt:=λK ad vs H Q E=>∃v d x,vs=[v,d]/\yx K ad H v x/\pq x.2.1 H d/\(∀y∈x.2.1,y.steps.length<=8)/\FK ad H Q E (iS x.2.1 x.2.2)
def Px(hc:ef K ad)(h:H p=some (.ins ad.ReadChain ao [("title",x),("states",y),("start",z)]))(q:Q x H):ed K (Str.ofString "title") p H Q:=
 fld h hc.readChain (by simp) rfl q
def rP(hc:ef K ad)(h:H p=some (.ins ad.ReadChain ao [("title",x),("states",y),("start",z)]))(q:Q y H):ed K (Str.ofString "states") p H Q:=
 fld h hc.readChain (by simp) rfl q
def yC(hc:ef K ad)(h:H p=some (.ins ad.ReadChain ao [("title",x),("states",y),("start",z)]))(q:Q z H):ed K (Str.ofString "start") p H Q:=
 fld h hc.readChain (by simp) rfl q
def Py:ho Z Z.D_ 3 Pw:=by
 refine cB ["found","numbers","number","state"] Z.D_ λH vs Q E C nd D q out r own h=>{_,(ax (dS own rfl (ky rfl Z.kL (av (aC K (ah 0)))) (ee rfl rfl (b0 (cG 2 nd) (b0 (cG 3 nd) ec))) (ax (bB (b1 (k_ne rfl q) (ku D (ah 1) (aC K (aC K (ah 3))) λ_ _=>rfl) (ah 2) (bZ _)) (az (gr (k:=0) out Z.e5 rfl (C.mono (by decide)) rfl Z.f7 (aD (bG Z.E2) (av (aC K (aC K (ah 3))))))) bI) (az (dv (f6 (Ps Z) C r (aD (ah 3) (av (ah 1)))))))) (az (bB (iZ (m_ D (aC K (aC K (ah 0))) (ah 1)) rfl) (az (gr (k:=0) out Z.e5 rfl (C.mono (by decide)) rfl Z.f7 (aD (bG Z.EX) (av (aC K (aC K (ah 0))))))) bI))),zi0 λ_ _=>?_};clear nd D q own r out;let(v,d,z0,rfl,z1,z2,R,k):=h;let(tt,rs,st):=z0;let(b,db,vs,Vf,rfl,A,z3,z4):=z1;let(as,us,rfl,has,t):=z3;let(Pz,at_,PA,rfl,u):=z4;let(P,V,rfl,F,m):=z2;simp only at A t u m R k;unfold iS at k;rfl';refine ui λ_ hb=>?_;rfl';refine rP Z.hc A (hb _ _ _ (au.of has) ?_);generalize w:(λ(i:Nat)(aa:L2.St)(aj:am)=>∃G I,aa=[some (.ref b),some (.ref P),G,I]/\aw H aj/\
  (∀f,nodesOf rs ((rs.take i).map (·.name.name)) (rs.drop i)=.error f->nodesOf rs [] rs=.error f)/\((∃y,nodesOf rs ((rs.take i).map (·.name.name)) (rs.drop i)=.ok y)->∃y,nodesOf rs [] rs=.ok y))=Pv
 refine pa (xs:=us) Pv (λi aa aj h=>?_) ?_ (λi aa aj y ai B h W=>?_) λaa aj h=>?_;rw[<-w]at h;let(_,_,_,s',_):=h;calc au.of (s' _ _ has);rw[<-w];calc{_,_,rfl,aw.refl _,λf h=>h,λh=>h};rw[<-w]at h;let(G,I,rfl,s',l,s):=h;let(z,hz,J):=t.get' B;have L:rs.drop i=z::rs.drop (i+1):=by let(ae,ag):=WH.mp hz;rw[X5 ae,ag]
 rw[L,Pt]at l s;have a:=s'.trans W;have g:=jc _ _ _ _ a J;obtain⟨c,PB,X,Y,Vg,rfl,Z.jd,⟨uF,an,yB,rfl,S⟩,_⟩:=id g;rfl';refine rO Z.hc Z.jd (hq (v:=.str (a4 z.name.name)) Z.hc S rfl ?_);let(j,M):=Pu hz;refine{.int (j:Int),?_,?_};have:=dA.k (k:=.inr (a4 z.name.name)) (a _ _ F);rw[m z.name.name,M]at this;calc this;rfl';by_cases o:((rs.take i).map (·.name.name)).contains z.name.name=true;have p:=(FL hz).mpr o;rw[M]at p;rw[WO o]at l;rw[WO (show¬(j:Int)=(i:Int)from λe=>p (by grind))];refine rO Z.hc Z.jd (ph Z.hc S {_,_,⟨rfl,rfl⟩,?_});rw[l _ rfl]at k;calc gU (di a k);have N:j=i:=by refine WR λp=>o ((FL hz).mp ?_);rw[M];exact λe=>p (Xw e)
 rw[WM o]at l s;rw[WM (show¬¬(j:Int)=(i:Int)from λe=>e (by rw[N]))];refine{_,_,z,rs,rfl,g,{P,V,rfl,a _ _ F,m},R z (WS hz),?_};have x:(rs.take (i+1)).map (·.name.name)=(rs.take i).map (·.name.name)++[z.name.name]:=by grind
 cases hs:stepsOf rs [] z.steps with
 |error f=>rw[hs]at l;rw[l _ rfl]at k;calc di a k
 |ok ss=>rw[hs]at l s;simp only[aF]at l s;intro bU s3;rw[<-w];exact{_,_,rfl,a.trans s3,λf T=>l f (by rw[x]at T;rw[T];rfl),λ⟨y,B⟩=>s {_,by rw[x]at B;rw[B];rfl}}
 rw[<-w]at h;let(G,I,rfl,s',l,s):=h;rw[t.1,YO]at s;let(ns,O):=s {[],rfl};rw[O]at k;erw[aF]at k;rfl';refine yC Z.hc (s' _ _ A) (hq (v:=.str (a4 st.name)) Z.hc (s' _ _ u) rfl ?_);rfl';refine{_,dA.k (k:=.inr (a4 st.name)) (s' _ _ F),?_};rw[m st.name,yz];cases U:placeIn rs st.name with
 |none=>rw[U]at k;rw[WO (by rfl)];refine yC Z.hc (s' _ _ A) (ph Z.hc (s' _ _ u) {_,_,⟨rfl,rfl⟩,?_});calc gU (di s' k)
 |some j=>rw[U]at k;rw[WM (by nofun)];calc k aj s'
end
def kO(a b):a4 (a++b)=a4 a++a4 b:=by apply fD.rx;rw[fD.xw];show((a++b).map (·.toNat))=(a.map (·.toNat))++(b.map (·.toNat));rw[Xp]
def PC{c:Char}(h:c.toNat<256):(UInt8.ofNat c.toNat).toNat=c.toNat:=YZ h
def PD(h:c∈Nat.toDigits 10 n):c.toNat<256:=by have:=Nat.isDigit_of_mem_toDigits (by decide) (by decide) h;unfold Char.isDigit at this;simp[decide_eq_true_eq]at this;have ag:=this.2;have a:c.val.toNat<=57:=ag;show c.val.toNat<256;lia
def yD(n:Nat):Str.ofString (toString (n:Int))=a4 (showNat n):=by apply fD.rx;rw[fD.Le];show(Nat.toDigits 10 n).map Char.toNat=((Nat.toDigits 10 n).map λc=>UInt8.ofNat c.toNat).map (·.toNat);rw[Xg];calc Xs λc hc=>(PC (PD hc)).symm
def str_int z:Str.ofString (toString z)=a4 (showInt z):=by
 unfold showInt;split;apply fD.rx;rw[fD.B6];obtain⟨m,rfl⟩:∃m,z=Int.negSucc m:=by
  cases z with|ofNat n=>grind|negSucc m=>nofun
 show(("-"++Nat.repr (m+1)).toList).map Char.toNat=(45::showNat (m+1)).map (·.toNat);erw[String.toList_append,Xp,WU];have e:=congrArg fD.bT (yD (m+1));rw[fD.B6]at e;show [45]++_=45::_;erw[List.singleton_append];congr 1;obtain⟨n,rfl⟩:∃n:Nat,z=n:={z.toNat,by lia};calc yD n
def str_len b:(a4 b).length=b.length:=Fc b
def FM{z:Int}(h:z.natAbs<=1000000000):z.natAbs.log2<1920:=E3 (Xn h (by nofun)) (by decide)
open Vaprbq (RawStep RawNode placeIn Chain Node)
section
variable {P:Program}{w:World}{K:PySem.W.Frag}{mg:Str->Option Value}{base:Heap}{ad:bC}{bx:hk} (Z:fS P w K mg base ad bx)
def c9(h:n<=100000):n<=sizeLine:=by rw[WJ];lia
def pv:Str.empty=a4 []:=rfl
def PE:bt:=λK ad vs H Q _=>∃v f,vs=[v]/\hr K H v f/\Q (.str (a4 (showFrac f))) H
def FN:bz Z Z.Do 1 PE:=by refine d0 ["ratio","top","bottom"] Z.Do (λi nd l b=>(ax (aV 1 nd (aQ K (ah 0) aJ)) (ax (aV 2 nd (aQ K (ah 0) aJ)) (zx0 (bB (b1 (fF rfl b) (ah 2) aJ (bZ _)) (az (aT (kn Jo (by rfl) Z.Ni PyProof.Rows.Boot.«str» (av (ah 1))))) bI) (az (aT (o_ (dX.cons (lO (ah 1)) (dX.cons dQ (dX.cons (lO (ah 2)) dX.nil)))))))))) λH vs Q E h=>zi0 λ_ _=>?_;let(v,f,rfl,z,k):=h;let(z0,fq):=z;let(a,rfl,c):=z0;rfl';refine d_ c rfl (d_ c rfl ?_);rfl';have d:=FM fq.top;have g:=FM (by rw[W8];calc fq.bot);unfold showFrac at k;split;rename_i e;refine{d,?_};rw[WO (by lia)]at k;rwa[str_int];rename_i e;rfl';rw[WM (by lia)]at k;rfl';have m:=As fq.top;have n:=wr fq.bot;rw[str_int,yD,pv,show Str.ofString "/"=a4 [47]by decide+kernel];simp only[<-kO,str_len,Yb];calc{d,c9 (by lia),c9 (by grind),g,c9 (by grind),c9 (by grind),k}
def lY(K:PySem.W.Frag):Re (Nat×VaprbBase.Frac):=λH v p=>∃t a,v=.ref t/\bJ K H t [.int p.1,a]/\hr K H a p.2
def pw:c7 (lY K):=λH aj v p s zz=>by let(t,a,e,h,ag):=zz;calc {t,a,e,d9 s h,ht _ _ _ _ s ag}
def px(c:Chain)(an b a:Addr):List (Str×V):=[("title",.str (a4 c.title)),("names",.ref an),("worths",.ref b),("steps",.ref a),("start",.int c.start)]
structure pA(K:PySem.W.Frag)(ad:bC)(H:am)(a ao an jN nF:Addr)(ix xs:List V)(c:Chain):Prop where
 ins:H a=some (.ins ad.Chain ao (px c an jN nF))
 names:H an=some (.lst (c.states.map λs=>V.str (a4 s.name)))
 worths:H jN=some (.lst ix)
 worth:bw (hr K H) ix (c.states.map (·.worth))
 steps:H nF=some (.lst xs)
 step:bw (cv (lY K) H) xs (c.states.map (·.steps))
def hZ(K:PySem.W.Frag)(ad:bC):Re Chain:=λH v c=>∃a ao an d b e xs,v=.ref a/\pA K ad H a ao an d b e xs c
def pA.mono(s:aw H aj)(h:pA K ad H a ao an d b e xs c):pA K ad aj a ao an d b e xs c:=
 {s _ _ h.ins,s _ _ h.names,s _ _ h.worths,h.worth.imp λv x z=>ht _ _ _ _ s z,s _ _ h.steps,h.step.imp λv x z=>c8 pw _ _ _ _ s z}
def gz:c7 (hZ K ad):=λH aj v c s zz=>by let(a,ao,an,d,b,f,xs,e,h):=zz;calc {a,ao,an,d,b,f,xs,e,h.mono s}
def PF(hc:ef K ad)(h:H p=some (.ins ad.Chain ao (px c an b a)))(q:Q (.str (a4 c.title)) H):ed K (Str.ofString "title") p H Q:=fld h hc.chain (by simp) rfl q
def lZ(hc:ef K ad)(h:H p=some (.ins ad.Chain ao (px c an b a)))(q:Q (.ref an) H):ed K (Str.ofString "names") p H Q:=fld h hc.chain (by simp) rfl q
def uP(hc:ef K ad)(h:H p=some (.ins ad.Chain ao (px c an b a)))(q:Q (.ref b) H):ed K (Str.ofString "worths") p H Q:=fld h hc.chain (by simp) rfl q
def pB(hc:ef K ad)(h:H p=some (.ins ad.Chain ao (px c an b a)))(q:Q (.ref a) H):ed K (Str.ofString "steps") p H Q:=fld h hc.chain (by simp) rfl q
def FO(hc:ef K ad)(h:H p=some (.ins ad.Chain ao (px c an b a)))(q:Q (.int (c.start:Int)) H):ed K (Str.ofString "start") p H Q:=fld h hc.chain (by simp) rfl q
def PG:jI Z Z.D7 1 (lQ ad.Chain ["title","names","worths","steps","start"]):=by
 refine a6 ["self","title","names","worths","steps","start"] Z.D7 (λc nd d a=>(ax (cN K (ah 0) (ah 1)) (ax (cN K (ah 0) (ah 2)) (ax (cN K (ah 0) (ah 3)) (ax (cN K (ah 0) (ah 4)) (az (cN K (ah 0) (ah 5)))))))) λH vs Q E h=>?_;let(p,ao,us,rfl,hl,b,k):=h;let(e,f,g,i,j,rfl):=zl5 hl;rfl';refine cO b Z.hc.chain (by simp) (by decide) (cO aO Z.hc.chain (by simp) (by show 1<1000;decide) (cO aO Z.hc.chain (by simp) (by show 2<1000;decide) (cO aO Z.hc.chain (by simp) (by show 3<1000;decide) (cO aO Z.hc.chain (by simp) (by show 4<1000;decide) ?_))));simp[gk];calc k
def yE{c:Chain}(h:i<c.states.length):(c.states.map λs=>V.str (a4 s.name))[i]? =some (.str (a4 (c.name i))):=by unfold Vaprbq.Chain.name;nofun
def f_(c:Chain)(p:Nat×VaprbBase.Frac):List UInt8:=c.name p.1++word " : "++showFrac p.2
def yF(h:aY c)(d:d5 p.2):(f_ c p).length<=41:=by unfold f_;have a:=ly h p.1;have b:=td d;erw[WI,WI,show(word " : ").length=3 by decide+kernel];lia
def PH:bt:=λK ad vs H Q _=>∃v u c p,vs=[v,u]/\hZ K ad H v c/\aY c/\lY K H u p/\p.1<c.states.length/\Q (.str (a4 (f_ c p))) H
def PI:bz Z Z.Ed 2 PH:=by refine d0 ["chain","step","name","weight"] Z.Ed (λg nd o d=>(zx0 (aV 2 nd (aQ K (aC K (ah 0)) (aQ K (ah 1) aJ))) (zx0 (aV 3 nd (a5 (FN Z) g (av (aQ K (ah 1) aJ)))) (az (aT (o_ (dX.cons (lO (ah 2)) (dX.cons dQ (dX.cons (lO (ah 3)) dX.nil))))))))) λH vs Q E h=>zi0 λ_ _=>?_;let(v,u,c,p,rfl,z,e,z0,m,k):=h;let(a,ao,an,q,i,r,xs,rfl,C):=z;let(t,l,rfl,f,b):=z0;rfl';refine lZ Z.hc C.ins (d_ f rfl ?_);refine aZ (au.of C.names) (yE m) ?_;rfl';refine d_ f rfl {l,p.2,rfl,b,?_};rfl';have ae:=ly e p.1;have ag:=td b.2;erw[pv,show Str.ofString " : "=a4 (word " : ")by decide+kernel];simp only[<-kO,str_len,Yb];have n:=yF e b.2;unfold f_ at n k;calc{c9 (by lia),c9 (by lia),c9 (by grind),c9 (by lia),c9 (by lia),c9 (by lia),k}
def FP c(l:List (List UInt8)):Txt.join (a4 c) (l.map a4)=a4 (joined c l):=by
 rw[fD.join_eq];apply fD.rx;erw[fD.xx,Xg];show fD.ng (c.map (·.toNat)) (l.map λb=>b.map (·.toNat))=(joined c l).map (·.toNat);induction l with|nil=>rfl|cons a r d=>
  cases r with|nil=>rfl|cons b r=>show a.map (·.toNat)++(c.map (·.toNat)++fD.ng _ _)=(a++c++joined c (b::r)).map (·.toNat);nofun
theorem yG(c:List UInt8):∀l:List (List UInt8),(joined c l).length<=(l.map (·.length)).sum+l.length*c.length|[]=>by simp[joined]|[a]=>by simp[joined]|a::b::r=>by have d:=yG c (b::r);show(a++c++joined c (b::r)).length<=_;rw[WI,WI,WU,aai,WL,Y8];lia
theorem rQ{α:Type}f n:∀l:List α,(∀x∈l,f x<=n)->(l.map f).sum<=l.length*n|[],_=>by simp|a::r,h=>by have c:=rQ f n r λx b=>h x (WE _ b);have d:=h a (WD ..);erw[WU,aai,WL,Y8];lia
def yH(h:aY c)(hs:s∈c.states):(showNode c s).length<=500:=by
 have no:=h.nodes s hs;unfold showNode;have a:=no.name;have b:=td no.worth;have d:=yG (word ", ") (s.steps.map (f_ c));have bX:=rQ (λx:List UInt8=>x.length) 41 (s.steps.map (f_ c)) λx e=>by let(p,f,rfl):=WT.mp e;exact yF h (no.steps p f).2.1
 rw[WC]at d bX;have g:=no.bj;have j:s.steps.length*(word ", ").length<=8*2:=by rw[show(word ", ").length=2 by decide+kernel];grind
 have k:(if s.worth.num=0 then []else word " ["++showFrac s.worth++word "]").length<=25:=by split;nofun;simp only[WI,WI,show(word " [").length=2 by decide+kernel,show(word "]").length=1 by decide+kernel];lia
 have l:(if s.steps=[]then []else word " -> "++joined (word ", ") (s.steps.map λx=>c.name x.1++word " : "++showFrac x.2)).length<=360:=by split;nofun;erw[WI,show(word " -> ").length=4 by decide+kernel];show 4+(joined (word ", ") (s.steps.map (f_ c))).length<=360;lia
 erw[WI,WI,show(word " ;").length=2 by decide+kernel];grind
def PJ:bt:=λK ad vs H Q _=>∃v c,∃i:Nat,∃s,vs=[v,.int i]/\hZ K ad H v c/\aY c/\c.states[i]? =some s/\∀ai,aw H ai->Q (.str (a4 (showNode c s))) ai
def PK:bz Z Z.Ec 3 PJ:=by
 refine d0 ["chain","number","line","worth","steps","step"] Z.Ec (λT nd bg m=>(ax (aV 2 nd (aQ K (aC K (ah 0)) (ah 1))) (ax (bB (b1 (k_ne rfl m) (aQ K (aC K (ah 0)) (ah 1)) (ja Z.hn rfl) (bZ _)) (ax (aV 3 nd (a5 (FN Z) T (av (aQ K (aC K (ah 0)) (ah 1))))) (az (mZ (i:=2) nd rfl (Or.inl rfl) (o_ (dX.cons dQ (dX.cons (lO (ah 3)) (dX.cons dQ dX.nil)))) CV))) bI) (ax (bB (b1 hN (cm K Z.cf (aQ K (aC K (ah 0)) (ah 1))) aJ (bZ _)) (ax (aV 4 nd (xX rfl dQ (dz rfl nd (cH K (aQ K (aC K (ah 0)) (ah 1))) (cM (own:=[("step",5)]) (by kernel_rfl)) (λ_ _ _ _ _=>b3 5 nd) (λ_ _ _ _ _=>dh) λ_ _ _ _ _=>ck (a5 (PI Z) T (aD (ah 0) (av (ah 5))))))) (az (mZ (i:=2) nd rfl (Or.inl rfl) (o_ (dX.cons dQ (dX.cons (lO (ah 4)) dX.nil))) CV))) bI) (az (aT (bl dY (ah 2) dQ))))))) λH vs Q E h=>?_;let(v,c,i,s,rfl,n,I,hs,k):=h;let(a,ao,an,jN,Y,ix,xs,rfl,C):=id n;have af:=(WH.mp hs).1;have no:=I.nodes s (WS hs);have J:c.name i=s.name:=by unfold Vaprbq.Chain.name;rw[hs];rfl
 show eL ?uQ (eL ?nG ?yI) ?pC ?rR ?rS;generalize iy: ?yI=B;have b:∀(L:List UInt8)(o:Option V),L.length<=50->L++(if s.steps=[]then []else word " -> "++joined (word ", ") (s.steps.map (f_ c)))++word " ;"++[10]=showNode c s->
   B {nx:=λx aj=>Q V.bb aj,rt:=Q} [some (V.ref a),some (V.int (i:Int)),some (V.str (a4 L)),o,none,none] H:=by
  intro L o hu w;rw[<-iy];rfl';let(vs,r,M,us,rfl,f,g):=C.step.get (i:=i) (y:=s.steps) (by grind);refine pB Z.hc C.ins (aZ (au.of C.steps) r ?_);refine cw (au.of f) ?_;symm;rw[g.1];have lW:=no.bj;split;rename_i e;have N:¬s.steps=[]:=λz=>by rw[z]at e;exact absurd e (by decide)
  rw[WM N]at w;refine{{_,rfl},?_};refine er (K:=K) xW (s.steps.map λp=>a4 (f_ c p)) (by rw[WC,WJ];lia) λd3 A=>?_;rfl';refine pB Z.hc C.ins (aZ (au.of C.steps) r ?_);refine A M us H (au.of f) (by rw[WC];calc g.1) (λj x z G dI O hz U q=>?_) λrH gP bs et iq P r2=>?_;rw[WG]at hz;cases l:s.steps[j]? with
  |none=>rw[l]at hz;cases hz
  |some p=>rw[l]at hz;cases hz;let(Ft,t,R):=g.get l;rw[O]at t;cases t;rfl';exact{_,_,c,p,rfl,gz _ _ _ _ U n,I,pw _ _ _ _ U R,(no.steps p (WS l)).1,q _ G (aw.refl _) rfl}
  have nc:bs=(s.steps.map λp=>a4 (f_ c p)).map V.str:=ew r2;subst nc;have v6:(word " -> ").length=4:=by decide+kernel
  have W:(word " ;"++[10]).length=3:=by decide+kernel
  have X:(word ", ").length=2:=by decide+kernel
  have d:=yG (word ", ") (s.steps.map (f_ c));have bX:=rQ (λx:List UInt8=>x.length) 41 (s.steps.map (f_ c)) λx O=>by let(p,l,rfl):=WT.mp O;exact yF I (no.steps p l).2.1
  rw[WC]at d bX;rw[X]at d;refine{s.steps.map λp=>a4 (f_ c p),au.of P,?_,?_};rw[show Str.ofString ", "=a4 (word ", ")by decide+kernel,str_len,X,WC,Xg];rw[Xg]at bX;rw[show((λx:Str=>x.length)∘λp=>a4 (f_ c p))=((λx:List UInt8=>x.length)∘f_ c)from funext λp=>str_len _];lia;have PL:Txt.join (Str.ofString ", ") (s.steps.map λp=>a4 (f_ c p))=a4 (joined (word ", ") (s.steps.map (f_ c))):=by rw[<-FP,Xg,show Str.ofString ", "=a4 (word ", ")by decide+kernel];rfl
  rw[PL,pv,show Str.ofString " -> "=a4 (word " -> ")by decide+kernel,show Str.ofString " ;\n"=a4 (word " ;"++[10])by decide+kernel];refine{c9 (by rw[<-kO,str_len];erw[Yb];lia),.inl {_,rfl,?_}};simp only[<-kO,str_len,Yb];have A:=k gP iq;rw[<-w,XZ (L++_)]at A;calc{c9 (by lia),c9 (by rw[WI];lia),c9 (by rw[WI];lia),c9 (by rw[WI];lia),c9 (by rw[WI,WI];lia),A};rename_i e;have c0:s.steps=[]:=Ye.mp (by lia);rw[WO c0,XC]at w;rw[show Str.ofString " ;\n"=a4 (word " ;"++[10])by decide+kernel];simp only[<-kO,str_len];rw[<-XZ,w];have W:(word " ;"++[10]).length=3:=by decide+kernel
  exact{c9 (by lia),k H (aw.refl _)}
 rfl';refine lZ Z.hc C.ins (aZ (au.of C.names) (yE af) ?_);rw[J];rfl';let(kN,u,D):=C.worth.get (i:=i) (y:=s.worth) (by grind);refine uP Z.hc C.ins (aZ (au.of C.worths) u ?_);let(FQ,rfl,S):=D.1;refine C4 (xs:=[s.worth.num,(s.worth.den:Int)]) (ys:=[0,1]) S (Z.hn.2 _) ?_;rw[ym D.2];refine ?_;symm;have FR:=no.name;unfold showNode at b;by_cases F:s.worth.num=0;rw[F,WM (by decide)];refine b s.name none (by lia) ?_;rw[WO F,XC];rfl;rw[show(s.worth.num==0)=false by simpa using F,WO (by decide)];refine uP Z.hc C.ins (aZ (au.of C.worths) u {_,s.worth,rfl,D,?_});have nf:=td D.2;rw[pv,show Str.ofString " ["=a4 (word " [")by decide+kernel,show Str.ofString "]"=a4 (word "]")by decide+kernel];have v6:(word " [").length=2:=by decide+kernel
 have W:(word "]").length=1:=by decide+kernel
 refine{c9 (by rw[<-kO,str_len];erw[Yb];lia),.inl {_,rfl,?_}};simp only[<-kO,str_len,Yb,WI];refine{c9 (by lia),c9 (by lia),c9 (by lia),c9 (by lia),c9 (by lia),?_};refine b _ _ (by grind) ?_;rw[WM F];rfl
theorem FS:∀l:List (List UInt8),joined [] l=l.flatten|[]=>rfl|[a]=>by simp[joined]|a::b::r=>by have c:=FS (b::r);show a++[]++joined [] (b::r)=_;erw[c,XC];rfl
def PM(l:List (List UInt8)):Txt.join (Str.ofString "") (l.map a4)=a4 l.flatten:=by have:=FP [] l;rwa[FS]at this
def linesOf(c:Chain)(i:Nat):List (List UInt8):=(word "chance "++c.title++[10])::(c.states.take i).map (showNode c)
def PN:bt:=λK ad vs H Q _=>∃v c,vs=[v]/\hZ K ad H v c/\aY c/\∀ai,aw H ai->Q (.str (a4 c.shown)) ai
def FT:bz Z Z.Eb 4 PN:=by
 refine d0 ["chain","title","start","lines","number"] Z.Eb (λt nd z p=>(ax (aV 1 nd (aC K (ah 0))) (ax (aV 2 nd (aQ K (aC K (ah 0)) (aC K (ah 0)))) (ax (aV 3 nd (bN (av (o_ (dX.cons dQ (dX.cons (lO (ah 1)) (dX.cons dQ dX.nil))))))) (ax (dS Xe rfl (m2 rfl Z.nt (av (cm K Z.cf (aC K (ah 0))))) (cG 4 nd) (az (dv (gS (ah 3) (av (a5 (PK Z) t (aD (ah 0) (av (ah 4))))))))) (ax (dv (gS (ah 3) (av (o_ (dX.cons dQ (dX.cons (lO (ah 2)) (dX.cons dQ dX.nil))))))) (az (aT (xX rfl dQ (ah 3)))))))))) λH vs Q E h=>zi0 λ_ _=>?_;let(v,c,rfl,f,d,k):=h;let(a,ao,an,A,u,B,xs,rfl,C):=id f;rfl';have F:=d.title;have w:=d.bj;have G:(word "chance ").length=7:=by decide+kernel
 have I:(word "tell ").length=5:=by decide+kernel
 rfl';refine PF Z.hc C.ins (lZ Z.hc C.ins (FO Z.hc C.ins ?_));rfl';refine aZ (au.of C.names) (yE d.start) ?_;rfl';rw[pv,show Str.ofString "chance "=a4 (word "chance ")by decide+kernel,show Str.ofString "\n"=a4 [10]by decide+kernel];simp only[<-kO,str_len,Yb];have J:(word "chance "++c.title++[10]).length<=24:=by grind
 refine{c9 (by lia),c9 (by lia),c9 (by grind),c9 (by lia),c9 (by lia),c9 (by lia),λD H1 q s1 ae=>?_};refine uk λL y=>?_;rfl';refine lZ Z.hc (s1 _ _ C.ins) (cw (au.of (s1 _ _ C.names)) ?_);rw[WC];refine y c.states.length H1 (by lia) ?_;generalize n:(λi(aa:L2.St)aj=>∃o,aa=[some (.ref a),some (.str (a4 c.title)),some (.str (a4 (c.name c.start))),some (.ref D),o]/\aw H aj/\aj D=some (.lst ((linesOf c i).map λl=>V.str (a4 l))))=Pv;refine ug Pv ?_ (λi aa aj af h=>?_) λaa aj h=>?_;rw[<-n];calc⟨none,rfl,s1,ae⟩;rw[<-n]at h;let(o,rfl,s',g):=h;rfl';obtain⟨st,j⟩:∃st,c.states[i]? =some st:={_,WK af};refine{{_,g},_,c,i,st,rfl,gz _ _ _ _ s' f,d,j,λai r=>{_,r _ _ g,?_,?_}};rw[WC,linesOf,WL,WC,Yp,WJ];lia;rw[<-n];refine{_,rfl,hW (s'.trans r) q,?_};rw[aO];unfold linesOf;rw[eh j,Xp,WU,WU,Xp,YN];rfl;rw[<-n]at h;let(o,rfl,s',g):=h;rfl';refine{{_,g},?_};have M:=ly d c.start;rw[pv,show Str.ofString "tell "=a4 (word "tell ")by decide+kernel];simp only[<-kO,str_len,Yb];have N:(word "tell "++c.name c.start++[10]).length<=24:=by grind
 have O:(linesOf c c.states.length).length<=25:=by rw[linesOf,WL,WC,Yp];lia
 have m:linesOf c c.states.length=(word "chance "++c.title++[10])::c.states.map (showNode c):=by unfold linesOf;rw[XO]
 refine{c9 (by lia),c9 (by lia),c9 (by grind),c9 (by lia),c9 (by lia),_,g,by rw[WC,WJ];lia,{_,rfl},?_};refine{(linesOf c c.states.length++[word "tell "++c.name c.start++[10]]).map a4,?_,?_,?_};rw[Xg,Xp];calc au.of aO;rw[Xg,show((λx:Str=>x.length)∘a4)=(λx:List UInt8=>x.length)from funext λb=>str_len b,show(Str.ofString "").length=0 by decide+kernel,Nat.mul_zero,abU];have:=rQ (λx:List UInt8=>x.length) 500 (linesOf c c.states.length++[word "tell "++c.name c.start++[10]]) λx aB=>by
  rcases Xc.mp aB with aB|aB
  rw[m]at aB;rcases WW.mp aB with aB|aB
  rw[aB];show(word "chance "++c.title++[10]).length<=500;lia;let(s,hs,rfl):=WT.mp aB;calc yH d hs;rw[WQ.mp aB];show(word "tell "++c.name c.start++[10]).length<=500;lia
 rw[WI,XA]at this;lia;rw[PM];have e:(linesOf c c.states.length++[word "tell "++c.name c.start++[10]]).flatten=c.shown:=by rw[m,List.flatten_append,Y4,List.flatten_singleton];unfold Vaprbq.Chain.shown;rw[List.flatMap_def];erw[XZ]
 rw[e];calc k _ (hW s' q)
def yJ(rs:List RawNode)(s:RawStep):Nat×VaprbBase.Frac:=((placeIn rs s.to.name).getD 0,s.weight)
def PO:bt:=λK ad vs H Q _=>∃v d x rs,vs=[v,d]/\jO K ad H v x/\pq rs H d/\(∀s∈x.steps,∃i,placeIn rs s.to.name=some i)/\x.steps.length<=8/\∀u ai,aw H ai->cv (lY K) ai u (x.steps.map (yJ rs))->Q u ai
def FU(s:aw H aj)(h:pq rs H v):pq rs aj v:=by let(a,kvs,e,h,ak):=h;calc{a,kvs,e,s _ _ h,ak}
def PP:bz Z Z.Ea 1 PO:=by
 refine d0 ["state","numbers","step"] Z.Ea (λS nd B u=>(az (aT (dz rfl nd (cH K (aC K (ah 0))) (cM (own:=[("step",2)]) (by kernel_rfl)) (λ_ _ _ _ _=>b3 2 nd) (λ_ _ _ _ _=>dh) λ_ _ _ _ _=>ck (kG (aD (ku B (ah 1) (aC K (aC K (ah 2))) (λ_ _=>rfl)) (av (aC K (ah 2))))))))) λH vs Q E h=>zi0 λ_ _=>?_;let(v,d,x,rs,rfl,z0,z1,n,Y,k):=h;let(b,T,U,V,vs,rfl,C,_,_,z2):=z0;let(l,us,rfl,has,a):=z2;let(W,X,rfl,D,m):=z1;rfl';refine er (pw (K:=K)) (x.steps.map (yJ rs)) (by erw[WC,WJ];lia) λd3 F=>?_;rfl';refine FJ Z.hc C ?_;refine F l us H (au.of has) (by rw[WC];calc a.1) (λj y z G dI I hz w q=>?_) λJ L bs et M o N=>?_;rw[WG]at hz;cases g:x.steps[j]? with
 |none=>nofun
 |some s=>rw[g]at hz;cases hz;let(yK,e,p):=a.get g;rw[I]at e;cases e;obtain⟨c,PB,O,f,rfl,Z.jd,⟨uF,an,yB,rfl,P⟩,r⟩:=nB _ _ _ _ w p;rfl';refine pr Z.hc Z.jd (hq Z.hc P rfl ?_);let(i,af):=n s (WS g);refine{.int (i:Int),?_,?_};have:=dA.k (k:=.inr (a4 s.to.name)) (w _ _ D);erw[m s.to.name,af]at this;calc this;refine Pm Z.hc Z.jd {by decide+kernel,λt G2 Vh A R=>?_};refine q _ G2 A {t,f,rfl,bJ.of ?_,ht _ _ _ _ A r};show G2 t=some (.tup [.int (((placeIn rs s.to.name).getD 0:Nat):Int),f]);rw[af];exact R
 calc k _ L M ⟨J,bs,rfl,o,N⟩
def FV(h:aY c):c.shown.length<=20000:=by unfold Vaprbq.Chain.shown;have ae:=h.title;have ag:=ly h c.start;have a:=h.bj;have b:=rQ (λs=>(showNode c s).length) 500 c.states λs hs=>yH h hs;simp[show(word "chance ").length=7 by decide+kernel,show(word "tell ").length=5 by decide+kernel,XA];lia
def PQ(K:PySem.W.Frag)(ad:bC):Re Chain:=λH v c=>hZ K ad H v c/\aY c
def PR:bt:=λK ad vs H Q E=>∃v bs,vs=[v]/\pc K H v bs/\Told ad (PQ K ad) H Q E (Vaprbq.read bs)
def PS:ho Z Z.D8 9 PR:=by
 refine cB ["text","found","numbers","chain","state"] Z.D8 λH vs Q E w nd bg S out e own h=>{_,(zx0 (aV 1 nd (f6 (Pa Z) w e (av (f6 (Oz Z) w e (av (ah 0)))))) (zx0 (fg (i:=2) nd rfl (Or.inr rfl) (a5 (Po Z) w (av (aC K (ah 1))))) (zx0 (dv (f6 (Py Z) w e (aD (ah 1) (av (ah 2))))) (zx0 (aV 3 nd (hX (PG Z) (w.mono (by decide)) rfl (aD (aC K (ah 1)) (aD (dz rfl nd (cH K (aC K (ah 1))) (cM (own:=[("state",4)]) (by kernel_rfl)) (λ_ _ _ _ _=>b3 4 nd) (λ_ _ _ _ _=>dh) λ_ _ _ _ _=>ck (aC K (aC K (ah 4)))) (aD (dz rfl nd (cH K (aC K (ah 1))) (cM (own:=[("state",4)]) (by kernel_rfl)) (λ_ _ _ _ _=>b3 4 nd) (λ_ _ _ _ _=>dh) λ_ _ _ _ _=>ck (aC K (ah 4))) (aD (dz rfl nd (cH K (aC K (ah 1))) (cM (own:=[("state",4)]) (by kernel_rfl)) (λ_ _ _ _ _=>b3 4 nd) (λ_ _ _ _ _=>dh) λ_ _ _ _ _=>ck (a5 (PP Z) w (aD (ah 4) (av (ah 2))))) (av (ku bg (ah 2) (aC K (aC K (ah 1))) λ_ _=>rfl)))))))) (zx0 (bB (b1 hN (cm K Z.cf (a5 (FT Z) w (av (ah 3)))) (bG Z.x9) (bZ _)) (az (gr (k:=0) out Z.e5 rfl (w.mono (by decide)) rfl Z.f7 (aD (bG Z.Nk) (av aJ)))) bI) (az (aT (ah 3)))))))),zi0 λ_ _=>?_};clear nd bg S own e out;let(v,bs,rfl,PT,k):=h;rfl';rw[Aq]at k;unfold qM at k;rfl';refine{v,bs,rfl,PT,?_};cases bW:tokens bs with
 |error f=>rw[bW]at k;calc k
 |ok gs=>
  rw[bW]at k;erw[aF]at k;let(aI,h0):=O9 bW;refine λv1 H1 s1 PU=>{v1,gs,rfl,PU,aI,h0,?_};cases dW:jo gs with
  |error f=>rw[dW]at k;calc di s1 k
  |ok c=>
   rw[dW]at k;erw[aF]at k;have T:=Ap dW aI.ok;refine λv2 ai s2 U=>?_;let(a2,bX,PV,Vi,rfl,W,A,X):=id U;rfl';refine rP Z.hc W {PV,c.2.1,rfl,A,T.rs.bj,λln bU s3 C=>?_};rfl';have Y:=s1.trans (s2.trans s3);refine{_,_,c,rfl,O_ _ _ _ _ s3 U,C,λy D=>(T.rs.all y D).bj,?_};cases c0:iS c.2.1 c.2.2 with
   |error f=>rw[c0]at k;calc di Y k
   |ok n=>
    rw[c0]at k;erw[aF]at k;let(cx,dn,F):=Ar T c0;intro dj s4;rfl';have I:=s3.trans s4;let(J,L,rfl,m,a):=c8 jc _ _ _ _ I A;have o:=I _ _ W;have hl:=T.rs.bj;have M:c.2.1.length<=sizeLine:=by rw[WJ];lia
    have N:n.1=c.2.1.map (qN c.2.1):=cx;refine Px Z.hc o ?_;refine er (K:=K) xW (c.2.1.map λx=>a4 x.name.name) (by rw[WC];calc M) λd3 a9=>?_;rfl';refine rP Z.hc o (a9 J L dj (au.of m) (by rw[WC];calc a.1) (λj y z G dI D hz P q=>?_) λuR dZ FW hg s5 cV r5=>?_);rw[WG]at hz;cases l:c.2.1[j]? with
    |none=>rw[l]at hz;cases hz
    |some x=>rw[l]at hz;cases hz;let(yK,d,p):=a.get l;rw[D]at d;cases d;let(b,db,nD,kN,vs,rfl,bD,z0,_):=jc _ _ _ _ P p;let(uF,an,yB,rfl,PW):=z0;rfl';exact rO Z.hc bD (hq (v:=.str (a4 x.name.name)) Z.hc PW rfl (q _ G (aw.refl _) rfl))
    refine er (K:=K) (ht (K:=K)) (c.2.1.map (·.worth)) (by rw[WC];calc M) λd3 a9=>?_;rfl';refine rP Z.hc (s5 _ _ o) (a9 J L dZ (au.of (s5 _ _ m)) (by rw[WC];calc a.1) (λj y z G dI D hz P q=>?_) λyL d7 PX rT c1 dy r6=>?_);rw[WG]at hz;cases l:c.2.1[j]? with
    |none=>rw[l]at hz;cases hz
    |some x=>rw[l]at hz;cases hz;let(yK,d,p):=a.get l;rw[D]at d;cases d;let(b,db,nD,kN,vs,rfl,bD,_,hw,_):=jc _ _ _ _ (s5.trans P) p;rfl';exact Pl Z.hc bD (q _ G (aw.refl _) hw)
    have r:=s5.trans c1;refine er (K:=K) (c8 (pw (K:=K))) (c.2.1.map λx=>x.steps.map (yJ c.2.1)) (by rw[WC];calc M) λd3 a9=>?_;rfl';refine rP Z.hc (r _ _ o) (a9 J L d7 (au.of (r _ _ m)) (by rw[WC];calc a.1) (λj y z G dI D hz P q=>?_) λPY gp PZ o3 dG kP r7=>?_);rw[WG]at hz;cases l:c.2.1[j]? with
    |none=>rw[l]at hz;cases hz
    |some x=>
     rw[l]at hz;cases hz;let(yK,d,p):=a.get l;rw[D]at d;cases d;rfl';refine{_,_,x,c.2.1,rfl,jc _ _ _ _ (r.trans P) p,FU ((s4.trans r).trans P) C,λs hs=>?_,(T.rs.all x (WS l)).bj,λu G2 P0 bg=>q u G2 P0 bg};have O:=c0;unfold iS at O;cases ae:nodesOf c.2.1 [] c.2.1 with
     |error f=>rw[ae]at O;cases O
     |ok ns=>let(ss,wq):=(oq _ _ _ _ ae).2 x (WS l);let(i,af,_):=(lx _ _ _ _ wq).2.1 s hs;exact⟨i,af⟩
    have t:=r.trans dG;let(Pz,at_,PA,rfl,FX):=uH _ _ _ _ (I.trans t) X;refine yC Z.hc (t _ _ o) (hq (v:=.str (a4 c.2.2.name)) Z.hc FX rfl ?_);let(P1,Vj,rfl,dx,P2):=FU (s4.trans t) C;refine{P1,rfl,.int (n.2:Int),?_,?_};have:=dA.k (k:=.inr (a4 c.2.2.name)) dx;rw[P2 c.2.2.name,dn]at this;calc this;refine λx ao gP nx R aB=>?_;rfl';have uS:hZ K ad gP (.ref x) ⟨c.1,n.1,n.2⟩:=by refine{x,ao,uR,yL,PY,PX,PZ,rfl,aB,?_,R _ _ (dG _ _ dy),?_,R _ _ kP,?_};have:=R _ _ (dG _ _ (c1 _ _ cV));rw[(ew r5),Xg]at this;rw[this,N,Xg];rfl;rw[N,Xg];calc r6.imp λu v z=>ht _ _ _ _ (dG.trans R) z;rw[N,Xg];exact r7.imp λu v z=>c8 pw _ _ _ _ R z
    have B:=Y.trans (s4.trans (t.trans R));refine{_,_,rfl,uS,F,λlI gQ=>?_};have hlen:=FV F;refine{by rw[str_len];calc c9 (by lia),?_};rw[str_len];by_cases g:TEXT<(Vaprbq.Chain.shown ⟨c.1,n.1,n.2⟩).length;rw[WO g]at k;unfold TEXT at g;rw[WO (by lia)];calc{_,_,⟨rfl,rfl⟩,gU (di (B.trans gQ) k)};rw[WM g]at k;unfold TEXT at g;rfl';rw[WM (by lia)];rfl';calc k _ lI (B.trans gQ) {gz _ _ _ _ gQ uS,F}
end
def yM f i:(List.range (i+1)).filter f=(List.range i).filter f++if f i=true then [i]else []:=by erw[Y1,ZS];cases h:f i<;>simp[h]
def rU{J:fh}{g:eM}{tt:TT}{Q:aE}{R:Re α}(t:c7 R)n f z(p:Nat->am->L2.St)(hsz:n<=sizeLine)
  (u:∀i H,i<n->aw H1 H->J.go i H) (a:∀H,aw H1 H->J.stop n H)
  (w:∀i H x aj,i<n->aw H1 H->J.hL i H x aj->aw H aj/\wipe (p i aj) vs=wipe aa vs/\∀C:L2.St->am->Prop,C (p i aj) aj->g x (wipe aa vs) aj C)
  (h:∀i aj(E:Bool->am->Prop),i<n->aw H1 aj->E (f i) aj->tt (p i aj) aj E)
  (j:∀i G aj(F:aE),i<n->f i=true->aw H1 G->aw G aj->(∀v s,aw G s->R s v (z i)->F v s)->te (p i aj) G F)
  (done:∀D ai us,H1 D=none->aw H1 ai->ai D=some (.lst us)->bw (R ai) us (((List.range n).filter f).map z)->Q (.ref D) ai):
  ∀D,H1 D=none->∃W:Nat->Nat->am->Prop,(∃m,W 0 m (upd H1 D (.lst [])))/\∀i m H,W i m H->
   (J.stop i H/\Q (.ref D) H)\/(J.go i H/\∃A:am->Prop,(∀aj,A aj->∃I,I<m/\W (i+1) I aj)/\∀x aj,J.hL i H x aj->g x (wipe aa vs) aj λc ai=>wipe c vs=wipe aa vs/\tt c ai λb K=>
    if b=true then gv te c K λy L=>∃acc,L D=some (.lst acc)/\acc.length<sizeLine/\A (upd L D (.lst (acc++[y])))else A K):=by
 intro D M;refine CR n (λi H=>∃acc,H D=some (.lst acc)/\aw H1 (del H D)/\bw (R (del H D)) acc (((List.range i).filter f).map z)) {[],aO,?_,?_} ?_ ?_ ?_ ?_;erw[cj,f5 M];calc aw.refl H1;calc bw.nil;rintro i H af ⟨acc,ae,ag,d⟩;calc u i H af λb o q=>c_ (ag b o q);rintro H ⟨acc,ae,ag,d⟩;calc a H λb o q=>c_ (ag b o q);rintro i H x aj af ⟨acc,ae,ag,d⟩ S;let(B,T,U):=w i H x aj af (λb o q=>c_ (ag b o q)) S;have k:aj D=some (.lst acc):=B _ _ ae;have l:aw (del H D) (del aj D):=λb o q=>by
  have V:b≠D:=λe=>by rw[e,fG]at q;cases q
  rw[bf V]at q⊢;exact B b o q
 refine U _ {T,h i aj _ af (λb o q=>B _ _ (c_ (ag b o q))) ?_};rw[yM,Xp];cases X:f i with
 |false=>erw[aaH,abu,Yz,XC];calc{acc,k,ag.trans l,d.imp λv z r=>t _ _ v z l r}
 |true=>
  erw[Yz];have hl:acc.length<sizeLine:=by rw[d.1,WC];have N:=YY f (List.range i);rw[W0]at N;exact Xn N (Xq af hsz)
  refine{D,acc,k,j i (del aj D) aj _ af X (ag.trans l) (λb o q=>c_ q) λv s O Y P=>{acc,aO,hl,acc++[v],aO,?_,?_}};erw[cj,cj,f5 P];calc(ag.trans l).trans O;rw[cj,cj,f5 P];exact(d.imp λv z r=>t _ _ v z (l.trans O) r).snoc Y
 rintro H ⟨acc,ae,ag,d⟩;calc done D H acc M (λb o q=>c_ (ag b o q)) ae (d.imp λv z r=>t _ _ v z (λb o q=>c_ q) r)
section
variable {α:Type}{K:PySem.W.Frag}{tt:TT}{te:TE}{aa:L2.St}{H:am}{Q:aE}{R:Re α}
abbrev rV(H1:am)(R:Re α)(Q:aE)(zs:List α):Prop:=∀D ai us,H1 D=none->aw H1 ai->ai D=some (.lst us)->bw (R ai) us zs->Q (.ref D) ai
def P4(m:c7 R)n f z(hsz:n<=sizeLine)
  (h:∀l:aE,(∀a xs H1,au K H1 a xs->xs.length=n->
   (∀(j:Nat)x aj(c:Bool->am->Prop),xs[j]? =some x->aw H1 aj->c (f j) aj->tt (aa.set i (some x)) aj c)->
   (∀(j:Nat)x G(d:aE),xs[j]? =some x->f j=true->aw H1 G->(∀v g,aw G g->R g v (z j)->d v g)->te (aa.set i (some x)) G d)->
   rV H1 R Q (((List.range n).filter f).map z)->l (.ref a) H1)->bT aa H l):hR (lE K bT) (dg i) tt (gv te) [i] aa H Q:=by
 refine h _ λa xs H1 ae ag o p r=>{a,rfl,⟨xs,ae⟩,?_};refine rU m n f z (λj _=>aa.set i xs[j]?) hsz (λj G k s=>?_) (λG s=>{xs,s.seq ae,by nofun}) (λj G x g k s y=>?_) (λj aj c k s q=>?_) (λj G aj d k t s s' q=>?_) r;calc{xs,xs[j]'(by lia),s.seq ae,WK _};let(e,y):=y;subst e;refine{aw.refl _,?_,λu w=>?_};show(aa.set i xs[j]?).set i none=aa.set i none;rw[XU];show u ((aa.set i none).set i (some x)) _;rwa[XU,<-y xs (s.seq ae)];have b:xs[j]? =some (xs[j]'(by lia)):=WK _;simp[b];calc o j _ aj c b s q;have b:xs[j]? =some (xs[j]'(by lia)):=WK _;simp[b];calc p j _ G d b t s q
def P5(g:c7 R)n f z(hsz:n<=sizeLine)
  (h:∀e:List V->am->Prop,(∀H1,
   (∀(j:Nat)aj(b:Bool->am->Prop),j<n->aw H1 aj->b (f j) aj->tt (aa.set i (some (.int (j:Int)))) aj b)->
   (∀(j:Nat)G(c:aE),j<n->f j=true->aw H1 G->(∀v d,aw G d->R d v (z j)->c v d)->te (aa.set i (some (.int (j:Int)))) G c)->
   rV H1 R Q (((List.range n).filter f).map z)->e [.int (n:Int)] H1)->aP aa H e):hR (tv aP) (dg i) tt (gv te) [i] aa H Q:=by
 have hz:n<=16777216:=by rwa[WJ]at hsz
 refine h _ λH1 k l m=>{n,rfl,by nofun,by lia,?_};refine rU g n f z (λj _=>aa.set i (some (.int j))) hsz (λj G a s=>a) (λG s=>W2 _) (λj G x d a s y=>?_) (λj aj b a s q=>k j aj b a s q) (λj G aj c a o s s' q=>l j G c a o s q) m;let(rfl,rfl):=y;refine{aw.refl _,?_,λp r=>?_};show(aa.set i _).set i none=aa.set i none;rw[XU];show p ((aa.set i none).set i (some (.int (0+j)))) _;rwa[XU,abT]
def P6(c:i≠j)(w:c7 R)n f z(hsz:n<=sizeLine)
  (h:∀r:aE,(∀a xs(ps:List (V×V))H1,au K H1 a xs->xs.length=n->bw (λv(p:V×V)=>∃t,v=.ref t/\bJ K H1 t [p.1,p.2]) xs ps->
   (∀(m:Nat)p aj(k:Bool->am->Prop),ps[m]? =some p->aw H1 aj->k (f m) aj->tt ((aa.set i (some p.1)).set j (some p.2)) aj k)->
   (∀(m:Nat)p G(l:aE),ps[m]? =some p->f m=true->aw H1 G->(∀v o,aw G o->R o v (z m)->l v o)->te ((aa.set i (some p.1)).set j (some p.2)) G l)->
   rV H1 R Q (((List.range n).filter f).map z)->r (.ref a) H1)->bT aa H r):hR (lE K bT) (i3 K 2 (fP (dg i) (fP (dg j) ju))) tt (gv te) [i,j] aa H Q:=by
 refine h _ λa xs ps H1 ae ag d A B C=>{a,rfl,⟨xs,ae⟩,?_};have get:∀m,m<n->∃p,ps[m]? =some p:=λm I=>{_,WK (by have:=d.1;nofun)};refine rU w n f z (λm _=>(aa.set i (ps[m]?.map (·.1))).set j (ps[m]?.map (·.2))) hsz (λm G g s=>?_) (λG s=>{xs,s.seq ae,by nofun}) (λm G x o g s y=>?_) (λm aj k g s q=>?_) (λm G aj l g D s s' q=>?_) C;calc{xs,xs[m]'(by lia),s.seq ae,WK _};let(e,y):=y;subst e;refine{aw.refl _,uh c _ _,λE u=>?_};let(p,b,t,rfl,F):=d.get' (y xs (s.seq ae));refine{t,_,rfl,d9 s F,rfl,_,_,rfl,_,_,rfl,rfl,?_};show E ((((aa.set j none).set i none).set i (some p.1)).set j (some p.2)) _;simp[b,X2]at u;rwa[XU,aag _ _ (XE c),XU];let(p,b):=get m g;simp[b,X2];calc A m p aj k b s q;let(p,b):=get m g;simp[b,X2];calc B m p G l b D s q
def yN(b:i≠j)(p:c7 R)n f z(hsz:n<=sizeLine)
  (h:∀l:List V->am->Prop,(∀a xs H1,au K H1 a xs->xs.length=n->
   (∀(m:Nat)x aj(e:Bool->am->Prop),xs[m]? =some x->aw H1 aj->e (f m) aj->tt ((aa.set i (some (.int (m:Int)))).set j (some x)) aj e)->
   (∀(m:Nat)x G(g:aE),xs[m]? =some x->f m=true->aw H1 G->(∀v k,aw G k->R k v (z m)->g v k)->te ((aa.set i (some (.int (m:Int)))).set j (some x)) G g)->
   rV H1 R Q (((List.range n).filter f).map z)->l [.ref a] H1)->aP aa H l):hR (xt K aP) (i3 K 2 (fP (dg i) (fP (dg j) ju))) tt (gv te) [i,j] aa H Q:=by
 refine h _ λa xs H1 ae ag r t w=>{a,xs,rfl,ae,?_};have get:∀m,m<n->∃x,xs[m]? =some x:=λm E=>{_,WK (by lia)};refine rU p n f z (λm _=>(aa.set i (some (.int m))).set j xs[m]?) hsz (λm G c s=>?_) (λG s=>{xs,s.seq ae,by nofun}) (λm G x k c s y=>?_) (λm aj e c s q=>?_) (λm G aj g c A s s' q=>?_) w;calc{xs,xs[m]'(by lia),s.seq ae,WK _};let(T,u,rfl,B,rfl,y):=y;have C:=y xs (s.seq ae);refine{fi B,uh b _ _,λD o=>?_};refine{T,_,rfl,bJ.of aO,rfl,_,_,rfl,_,_,rfl,rfl,?_};show D ((((aa.set j none).set i none).set i (some (.int m))).set j (some u)) _;simp[C]at o;rwa[XU,aag _ _ (XE b),XU];let(x,d):=get m c;simp[d];calc r m x aj e d s q;let(x,d):=get m c;simp[d];calc t m x G g d A s q
def uT(k:i≠j)(w:c7 R)n f z(hsz:n<=sizeLine)
  (h:∀r:List V->am->Prop,(∀a b xs ys H1,au K H1 a xs->au K H1 b ys->xs.length=n->ys.length=n->
   (∀(m:Nat)x y aj(l:Bool->am->Prop),xs[m]? =some x->ys[m]? =some y->aw H1 aj->l (f m) aj->tt ((aa.set i (some x)).set j (some y)) aj l)->
   (∀(m:Nat)x y G(o:aE),xs[m]? =some x->ys[m]? =some y->f m=true->aw H1 G->(∀v p,aw G p->R p v (z m)->o v p)->te ((aa.set i (some x)).set j (some y)) G o)->
   rV H1 R Q (((List.range n).filter f).map z)->r [.ref a,.ref b] H1)->aP aa H r):hR (xv K aP) (i3 K 2 (fP (dg i) (fP (dg j) ju))) tt (gv te) [i,j] aa H Q:=by
 refine h _ λa b xs ys H1 ae c ag A B C D=>{a,b,xs,ys,rfl,ae,c,?_};have get:∀m,m<n->∃x,xs[m]? =some x:=λm E=>{_,WK (by lia)};have get':∀m,m<n->∃x,ys[m]? =some x:=λm E=>{_,WK (by lia)};refine rU w n f z (λm _=>(aa.set i xs[m]?).set j ys[m]?) hsz (λm G d s=>?_) (λG s=>{xs,ys,s.seq ae,s.seq c,.inl (by nofun)}) (λm G x p d s y=>?_) (λm aj l d s q=>?_) (λm G aj o d F s s' q=>?_) D;let(x,e):=get m d;let(y,g):=get' m d;calc{xs,ys,x,y,s.seq ae,s.seq c,e,g};let(T,u,v,rfl,I,rfl,J,L):=y;have M:=J xs (s.seq ae);have N:=L ys (s.seq c);refine{fi I,uh k _ _,λO t=>?_};refine{T,_,rfl,bJ.of aO,rfl,_,_,rfl,_,_,rfl,rfl,?_};show O ((((aa.set j none).set i none).set i (some u)).set j (some v)) _;simp[M,N]at t;rwa[XU,aag _ _ (XE k),XU];let(x,e):=get m d;let(y,g):=get' m d;simp[e,g];calc B m x y aj l e g s q;let(x,e):=get m d;let(y,g):=get' m d;simp[e,g];calc C m x y G o e g F s q
end
def uU{α a:Type}(d:α)(zs:List α)(g:α->a):((List.range zs.length).filter λ_=>true).map (λi=>g (zs[i]?.getD d))=zs.map g:=by rw[YE.mpr λ_ _=>rfl];apply XS;simp;nofun
def range_all{a:Type}n(g:Nat->a):((List.range n).filter λ_=>true).map g=(List.range n).map g:=by rw[YE.mpr λ_ _=>rfl]
section
variable {K:PySem.W.Frag}{bi:cy}{D:Ends}{aa:L2.St}{H:am}{xs:List V}
def P7  (Pv:Nat->L2.St->am->Prop) (h:∀b:List V->am->Prop,(∀a H1,au K H1 a xs->(∀i aa H,Pv i aa H->au K H a xs)->Pv 0 aa H1->
   (∀(i:Nat) aa H x,i<xs.length->xs[xs.length - 1 - i]? =some x->Pv i aa H->bi {D with nx:=Pv (i+1),ct:=Pv (i+1),bk:=D.nx} (aa.set p (some x)) H)->(∀aa H,Pv xs.length aa H->D.nx aa H)->b [.ref a] H1)->aP aa H b):
  oQ (xq K aP) (dg p) bi D aa H:=by
 refine h _ λa H1 d c e hs hd=>{a,xs,rfl,d,?_};refine rB xs.length Pv e (λi aa H af p=>?_) (λaa H p=>W2 _) (λi aa H x aj af ah y=>?_) hd
 .exact{af,xs,xs[xs.length - 1 - i]'(by omega),c _ _ _ p,WK _}
 let(rfl,y):=y;calc hs i aa aj x af (y xs (c _ _ _ ah)) ah
def uV ps(Pv:Nat->L2.St->am->Prop)(hl:xs.length=ps.length)(b:∀i aa H,Pv i aa H->au K H a xs/\bw (λv(p:V×V)=>∃t,v=.ref t/\bJ K H t [p.1,p.2]) xs ps)(c:Pv 0 aa H)
  (hs:∀(i:Nat)aa H x,ps[i]? =some x->Pv i aa H->bi {D with nx:=Pv (i+1),ct:=Pv (i+1),bk:=D.nx} ((aa.set p (some x.1)).set q (some x.2)) H) (hd:∀aa H,Pv xs.length aa H->D.nx aa H):
  kK (oO K a) (i3 K 2 (fP (dg p) (fP (dg q) ju))) bi D aa H:=by
 refine jG Pv (λi aa H p=>(b i aa H p).1) c (λi aa H x d ah=>?_) hd;let(y,e,t,rfl,f):=(b i aa H ah).2.get' d;calc{t,_,rfl,f,rfl,_,_,rfl,_,_,rfl,rfl,hs i aa H y e ah}
end
open VaprbBase (Frac)
open Vaprbq (Chain Node)
section
variable {P:Program}{w:World}{K:PySem.W.Frag}{mg:Str->Option Value}{base:Heap}{ad:bC}{bx:hk} (Z:fS P w K mg base ad bx)
def l0(a:List Frac)(i:Nat):Nat:=(a.take i).foldl (λb w=>Nat.lcm b w.den) 1
def P8{w:Frac}(h:a[i]? =some w):l0 a (i+1)=Nat.lcm (l0 a i) w.den:=by unfold l0;rw[eh h,List.foldl_append];rfl
def rW a:l0 a a.length=b' a:=by unfold l0 b';nofun
def jP{n m:Nat}(h:n<=2^m)(a:m<8999):Small n:={by calc Xn h (Xi (by decide) a)}
def uW(d:∀w∈c,d5 w)(hl:c.length<=24)i:0<l0 c i/\l0 c i<=2^720:=by let(a,_,_,b):=j7 (c.take i) 1 (by nofun) λw h=>(d w (Zx h)).pos;refine{a,W1 (b (2^30) λw h=>W1 (d w (Zx h)).bot (by decide)) ?_};rw[ZW,<-ZX,Yp];calc XX (by decide) (by lia)
def P9:bt:=λK ad vs H Q _=>∃v a,vs=[v]/\cv (hr K) H v a/\a.length<=24/\
 ∀t l ai,aw H ai->bJ K ai t [.ref l,.int (b' a)]->ai l=some (.lst ((c5 a).map V.int))->Q (.ref t) ai
def FY:bz Z Z.Dl 3 P9:=by
 refine d0 ["ratios","bottom","ratio"] Z.Dl (λn nd T C=>(ax (fg (i:=1) nd rfl (Or.inr rfl) aJ) (ax (dS Xe rfl (cH K (ah 0)) (cG 2 nd) (az (fg (i:=1) nd rfl (Or.inr rfl) (a5 (yc Z) n (aD (ah 1) (av (aQ K (ah 2) aJ))))))) (az (aT (kG (aD (dz rfl nd (cH K (ah 0)) (cM (own:=[("ratio",2)]) (by kernel_rfl)) (λ_ _ _ _ _=>b3 2 nd) (λ_ _ _ _ _=>dh) λ_ _ _ _ _=>ck (bl dH (aQ K (ah 2) aJ) (bl jb (ah 1) (aQ K (ah 2) aJ)))) (av (ah 1))))))))) λH vs Q E h=>zi0 λ_ _=>?_;let(v,b,rfl,z0,s,k):=h;let(a,xs,rfl,r,d):=z0;rfl';have fq:∀w∈b,d5 w:=λw J=>by let(i,af):=Zm.mp J;let(x,_,n):=d.get af;exact n.2
 have ok:=uW fq s;rfl';refine iw λU L=>?_;rfl';generalize e:(λ(i:Nat)(aa:L2.St)(G:am)=>G=H/\∃o,aa=[some (V.ref a),some (V.int (l0 b i:Int)),o])=Pv;refine L a xs H (au.of r) (jG (xs:=xs) Pv (λi aa G p=>?_) ?_ (λi aa G x u p=>?_) λaa G p=>?_);rw[<-e]at p;rw[p.1];calc au.of r;rw[<-e];calc⟨rfl,none,rfl⟩;rw[<-e]at p;let(rfl,o,rfl):=p;let(q,y,z1,c):=d.get' u;let(t,rfl,l):=z1;rfl';refine d_ (j:=1) l rfl ?_;have A:=ok i;refine{_,_,rfl,by nofun,by have:=c.pos;nofun,jP A.2 (by decide),jP (m:=30) (W1 c.bot (by decide)) (by decide),?_};rw[<-e];refine{rfl,some (V.ref t),?_};rw[P8 y];rfl;rw[<-e]at p;let(rfl,o,rfl):=p;rw[d.1,rW];rfl';have g:=ok b.length;rw[rW]at g;refine er (K:=K) hj (c5 b) (by unfold c5;erw[WC,WJ];lia) λQd hd=>?_;rfl';refine hd a xs G (au.of r) (by unfold c5;rw[WC];calc d.1) (λj x z G2 W B hz F q=>?_) λD ai us X M ag N=>?_;let(f,O,z2,c):=d.get' B;let(t,rfl,l):=z2;unfold c5 at hz;erw[WG,O]at hz;cases hz;rfl';refine d_ (j:=0) (d9 F l) rfl (d_ (j:=1) (d9 F l) rfl ?_);have ae:Small (f.num):={Xn c.top (by decide)};have ag:Small ((b' b:Int)/(f.den:Int)):=by refine Small.le (jP g.2 (by decide)) ?_;erw[W8];exact Ya ..
 refine{{by show(0:Int)<(f.den:Int);have:=c.pos;nofun,(jP (m:=30) (W1 c.bot (by decide)) (by decide)).log},ae.mul ag,q _ _ (aw.refl _) ?_};show V.int _=V.int _;rw[<-Z9];have P:us=(c5 b).map V.int:=ew N;subst P;exact{by rw[WJ];decide,λp R Y I S=>k p D R (M.trans I) (bJ.of S) (I _ _ ag)}
def P_:bt:=λK ad vs H Q _=>∃v u f g,vs=[v,u]/\gu K H v (f.num,f.den)/\gu K H u (g.num,g.den)/\aU f/\aU g/\Small (f.num)/\Small f.den/\Small (g.num)/\Small g.den/\
 ∀a ai,aw H ai->gu K ai a ((f.mul g).num,((f.mul g).den))->Q a ai
def rX t(b:Nat)(h:0<b):low t b=((frac t b).num,((frac t b).den:Int)):=by have:=Fk (z:=t) (d:=b) (by lia);nofun
def uX{b:Nat}(h:0<b)(a:Small t)(c:Small (b:Int)):Small (frac t b).num/\Small ((frac t b).den):=by
 have e:frac t b={t/(Nat.gcd t.natAbs b),b/Nat.gcd t.natAbs b}:=by unfold frac;grind
 rw[e];constructor;refine a.le ?_;rw[Yh (XK.mpr (XN _ _)),W8];calc Ya ..;refine c.le ?_;calc Ya ..
def P'(a:aU f)(b:aU g):f.mul g={(frac f.num g.den).num*(frac g.num f.den).num,(frac f.num g.den).den*(frac g.num f.den).den}:=by
 have c:=h8 f.num g.den;have d:=h8 g.num f.den;have j:=YM c.pos d.pos;have k:=hC f.num (Xr b.pos);have l:=hC g.num (Xr a.pos);have h:(frac f.num g.den).num.natAbs∣f.num.natAbs/\(frac f.num g.den).den∣g.den:=by
  have e:frac f.num g.den={f.num/(Nat.gcd f.num.natAbs g.den),g.den/Nat.gcd f.num.natAbs g.den}:=by unfold frac;rw[WM (Xr b.pos)]
  rw[e];refine{?_,YX (X4 ..)};rw[Yh (XK.mpr (XN _ _)),W8];exact YX (XN ..)
 have i:(frac g.num f.den).num.natAbs∣g.num.natAbs/\(frac g.num f.den).den∣f.den:=by
  have e:frac g.num f.den={g.num/(Nat.gcd g.num.natAbs f.den),f.den/Nat.gcd g.num.natAbs f.den}:=by unfold frac;rw[WM (Xr a.pos)]
  rw[e];refine{?_,YX (X4 ..)};rw[Yh (XK.mpr (XN _ _)),W8];exact YX (XN ..)
 refine k9 (hD f g) {j,?_} ?_;rw[XW];have m:=aaj h.1 (Z_ i.2 a.iF);have n:=aaj i.1 (Z_ h.2 b.iF);calc Nat.Coprime.mul_left (abp c.iF m) (abp n d.iF);rw[val_mul a b];show _=((_*_:Int))/(((_*_:Nat):Int):Rat);unfold val at k l⊢;have q:∀a b c d:Rat,a/b*(c/d)=a/d*(c/b):=by grind
 have p:∀a b c d:Rat,a/b*(c/d)=a*c/(b*d):=by grind
 rw[q,<-k,<-l,p,W6];congr 1;simp
def Qa:bz Z Z.Dm 3 P_:=by refine d0 ["one","other","left","right"] Z.Dm (λe nd c i=>(zx0 (aV 2 nd (a5 (jJ Z) e (aD (aQ K (ah 0) aJ) (av (aQ K (ah 1) aJ))))) (zx0 (aV 3 nd (a5 (jJ Z) e (aD (aQ K (ah 1) aJ) (av (aQ K (ah 0) aJ))))) (az (aT (kG (aD (zf0 (bl dH (aQ K (ah 2) aJ) (aQ K (ah 3) aJ))) (av (zf0 (bl dH (aQ K (ah 2) aJ) (aQ K (ah 3) aJ))))))))))) λH vs Q E h=>zi0 λ_ _=>?_;let(v,u,f,g,rfl,z0,z1,m,n,s,o,t,q,k):=h;let(ea,rfl,l):=z0;let(B,rfl,c):=z1;rfl';have r:=m.pos;have jw:=n.pos;rfl';refine d_ l rfl (d_ c rfl ?_);refine{_,_,rfl,by grind,q,λC H1 s1 a=>?_};rfl';refine d_ (d9 s1 c) rfl (d_ (d9 s1 l) rfl ?_);refine{_,_,rfl,by grind,o,λD ai d b=>?_};rfl';erw[rX _ _ jw]at a;rfl';erw[rX _ _ r]at b;let(F,rfl,a):=a;let(G,rfl,b):=b;rfl';let(cA,dc):=uX jw s q;let(w,x):=uX r t o;refine d_ (d9 d a) rfl (d_ b rfl {cA.mul w,?_});rfl';refine d_ (d9 d a) rfl (d_ b rfl {dc.mul x,?_});rfl';refine{by rw[WJ];decide,λp y I z A=>k _ y ((s1.trans d).trans z) {p,rfl,bJ.of ?_}};rw[A,P' m n];rfl
def uY x xs:ha (x::xs) (some 1) none=xs:=by show(((x::xs).drop (min (1:Int).toNat (xs.length+1))).take (xs.length+1-min (1:Int).toNat (xs.length+1)))=xs;nofun
def Qb(x y)xs:ha (x::(xs++[y])) (some 1) (some (-1))=xs:=by simp[ha,eF.fZ,show (-1+((xs.length:Int)+1+1)).toNat=xs.length+1 by omega]
theorem nI:∀l,bV l=l.sum|[]=>rfl|x::r=>by rw[aai,<-nI r];rfl
def Bk x xs(y:α):hP (x::(xs++[y])) (-1)=some y:=by
 unfold hP;have e:hO (x::(xs++[y])).length (-1)=some (xs.length+1):=by unfold hO;grind
 nofun
def pD(c d b:Int)(ay fs:List Int):List Int:=List.zipWith (λone a=>(c*one-d*a)/b) ay fs
def Qc:bt:=λK ad vs H Q _=>∃(v u:V)(a c b:Int)(ay fs:List Int),vs=[v,u,.int b]/\cZ H v (a::ay)/\cZ H u (c::fs)/\ay.length=fs.length/\ay.length<=1000/\0<b/\Small b/\
 Small a/\Small c/\(∀x∈ay,Small x)/\(∀x∈fs,Small x)/\∀d ai,aw H ai->cZ ai d (pD c a b ay fs)->Q d ai
def Qe:bz Z Z.Dq 1 Qc:=by
 refine bX ["equation","first","before","lead","factor","one","other"] Z.Dq λH vs Q E W nd C a h=>{_,(ax (fg (i:=3) nd rfl (Or.inr rfl) (aQ K (ah 1) aJ)) (ax (fg (i:=4) nd rfl (Or.inr rfl) (aQ K (ah 0) aJ)) (az (aT (dz rfl nd (lJ rfl Z.lR (aD (jz (jF rfl) (ah 0) (gO aJ) rj) (av (jz (jF rfl) (ah 1) (gO aJ) rj)))) (cM (own:=[("one",5),("other",6)]) (by kernel_rfl)) (λ_ _ _ _ _=>ee (n:=2) rfl rfl (b0 (b3 5 nd) (b0 (b3 6 nd) ec))) (λ_ _ _ _ _=>dh) λ_ _ _ _ _=>ck (bl jb (bl lF (bl dH (ah 3) (ah 5)) (bl dH (ah 4) (ah 6))) (ah 2))))))),zi0 λ_ _=>?_};clear nd C a;let(v,u,l,o,b,ay,fs,rfl,z0,z1,hl,F,I,bs,J,L,p,r,k):=h;let(X,rfl,ae):=z0;let(Y,rfl,ag):=z1;rfl';refine aZ (j:=0) (au.of ag) rfl (aZ (j:=0) (au.of ae) rfl ?_);have s:ay.length<=sizeLine:=by rw[WJ];lia
 refine uT (K:=K) (by decide) hj ay.length (λ_=>true) (λi=>(o*(ay[i]?.getD 0)-l*(fs[i]?.getD 0))/b) s λd3 M=>?_;rfl';refine{_,au.of ae,λN H1 eR s1 w=>{_,s1.seq (au.of ag),λbn ai et z A=>?_}};rw[WU,uY]at w A;refine M N bn _ _ ai (au.of (z _ _ w)) (au.of A) (WC _) (by nofun) (λm x y aj pE _ _ _ q=>q) (λm x y G dI c d _ cg q=>?_) λD O us fH P R g=>?_;rw[WG]at c d;cases ex:ay[m]? with
 |none=>nofun
 |some ev=>
  cases t:fs[m]? with
  |none=>rw[t]at d;cases d
  |some S=>rw[ex]at c q;rw[t]at d q;cases c;cases d;rfl';exact{L.mul (p ev (WS ex)),J.mul (r S (WS t)),⟨I,bs.log⟩,q _ G (aw.refl _) rfl}
 refine k _ O ((s1.trans z).trans P) {D,rfl,?_};rw[R];have e:((List.range ay.length).filter λ_=>true).map (λi=>(o*(ay[i]?.getD 0)-l*(fs[i]?.getD 0))/b)=pD o l b ay fs:=by
  rw[range_all];apply XS;simp[pD,hl];intro i h6 B;unfold pD at B⊢;rw[Zb]at B;rw[YV,Zl,Zv,WK (by nofun),WK (by nofun)];rfl
 rw[e]at g;have g:=ew (f:=V.int) g;rw[g]
structure FZ(oG:Int)(rows:List (Int×List Int×Int))(T:List Int):Prop where
 len:T.length=rows.length
 bj:rows.length<=24
 dR:Small oG
 st:∀x∈T,Small x
 row:∀(k:Nat)r,rows[k]? =some r->r.2.1.length=rows.length-(k+1)/\0<r.1/\Small r.1/\(∀x∈r.2.1,Small x)/\Small r.2.2/\
  T[k]? =some ((oG*r.2.2-bV (List.zipWith (· *·) r.2.1 (T.drop (k+1))))/r.1)
def uZ(r:Int×List Int×Int):List Int:=r.1::(r.2.1++[r.2.2])
def Qg:bt:=λK ad vs H Q _=>∃v a rows T,vs=[v,.int a]/\cv cZ H v (rows.map uZ)/\FZ a rows T/\
 ∀b ai,aw H ai->cZ ai b T->Q b ai
def Qh:bz Z Z.Dr 1 Qg:=by
 refine bX ["stairs","bottom","tops","equation","known","factor","top"] Z.Dr λH vs Q E w nd bg z h=>{_,(ax (aV 2 nd (bN i4)) (zx0 (dS Xe rfl (MZ rfl rfl Z.Nf (av (ah 0))) (cG 3 nd) (ax (aV 4 nd (gm (nq rfl rfl) (by rfl) Z.nu PyProof.Rows.Boot.«sum» (av (dz rfl nd (lJ rfl Z.lR (aD (jz (jF rfl) (ah 3) (gO aJ) (gO (q_ q' aJ))) (av (ah 2)))) (cM (own:=[("factor",5),("top",6)]) (by kernel_rfl)) (λ_ _ _ _ _=>ee (K:=K) (n:=2) rfl rfl (b0 (b3 5 nd) (b0 (b3 6 nd) ec))) (λ_ _ _ _ _=>dh) λ_ _ _ _ _=>ck (bl dH (ah 5) (ah 6)))))) (az (aV 2 nd (bl dY (bN (av (bl jb (bl lF (bl dH (ah 1) (aQ K (ah 3) (q_ q' aJ))) (ah 4)) (aQ K (ah 3) aJ)))) (ah 2)))))) (az (aT (ah 2))))),zi0 λ_ _=>?_};clear nd bg z;let(v,g,rows,T,rfl,z0,C,k):=h;let(as,xs,rfl,S,U):=z0;rfl';have c0:xs.length=rows.length:=by rw[U.1,WC]
 have bj:=C.bj;rfl';refine{by nofun,λt0 h1 iH W h0=>?_};generalize A:(λ(i:Nat)(aa:L2.St)(G:am)=>aw H G/\∃I M N,cZ G I (T.drop (rows.length-i))/\aa=[some (V.ref as),some (V.int g),some I,M,N,none,none])=Pv;rfl';refine P7 (xs:=xs) Pv λd3 a9=>?_;rfl';refine a9 as h1 (au.of (W _ _ S)) (λi aa G p=>?_) ?_ (λi aa G x af B p=>?_) λaa G p=>?_;rw[<-A]at p;calc au.of (p.1 _ _ S);rw[<-A];refine{W,_,none,none,{t0,rfl,?_},rfl};rw[Nat.sub_zero,<-C.len,YO];calc h0;rw[<-A]at p;let(J,I,M,N,z1,rfl):=p;let(at_,rfl,O):=z1;obtain⟨b,ak⟩:∃b,b=xs.length-1-i:={_,rfl};rw[<-ak]at B;let(Vk,a,Vl,rfl,P):=U.get' B;rw[WG]at a;cases w:rows[b]? with
 |none=>nofun
 |some r=>
  rw[w]at a;cases a;let(hG,g7,wk,fW,Qi,Qj):=C.row b r w;have o:rows.length-i=b+1:=by lia
  rw[o]at O;have s:(T.drop (b+1)).length=r.2.1.length:=by rw[W5,C.len,hG]
  have t:=J _ _ P;unfold uZ at t;rfl';refine uT (K:=K) (by decide) hj r.2.1.length (λ_=>true) (λi=>(r.2.1[i]?.getD 0)*((T.drop (b+1))[i]?.getD 0)) (by rw[WJ];omega) λQd hd=>?_;rfl';refine{_,au.of t,λjD H1 eR s1 X=>?_};rw[WU,Xp,WU,Yz,Qb]at X;refine hd jD at_ _ _ H1 (au.of X) (au.of (s1 _ _ O)) (WC _) (by rw[WC,s]) (λm x y aj pE _ _ _ q=>q) (λm x y G2 dI c d _ u0 q=>?_) λD bU us fH Y bR L=>?_;rw[WG]at c d;cases ex:r.2.1[m]? with
  |none=>rw[ex]at c;cases c
  |some ev=>
   cases R:(T.drop (b+1))[m]? with
   |none=>rw[R]at d;cases d
   |some F0=>rw[ex]at c q;rw[R]at d q;cases c;cases d;rfl';exact{(fW ev (WS ex)).mul (C.st F0 (Zw (WS R))),q _ G2 (aw.refl _) rfl}
  have e:((List.range r.2.1.length).filter λ_=>true).map (λi=>(r.2.1[i]?.getD 0)*((T.drop (b+1))[i]?.getD 0))=List.zipWith (· *·) r.2.1 (T.drop (b+1)):=by
   rw[range_all];apply XS;rw[WC,W0,Zb,s,abP];intro i h6 k7;rw[Zb]at k7;have vX:i<r.2.1.length:=by omega
   have Qk:i<(T.drop (b+1)).length:=by omega
   rw[YV,Zl,Zv,WK vX,WK Qk];rfl
  rw[e]at L;have L:=ew (f:=V.int) L;subst L;refine{D,_,rfl,au.of bR,?_};rw[<-nI];have u:=Y _ _ (s1 _ _ t);rw[WU,Xp,WU,Yz]at u;refine{_,_,.inl (au.of u),Bk _ _ _,?_};rfl';refine{C.dR.mul Qi,aZ (j:=0) (au.of u) rfl ?_};rfl';refine{⟨g7,wk.log⟩,by rw[WJ];decide,λl1 dZ hg s5 cV=>?_};have F:=(s1.trans Y).trans s5;refine{_,_,cV,F _ _ O,by rw[WC,s,WJ];show 1+_<=_;omega,λnJ d7 rT c1 dy=>?_};rw[<-A];refine{(J.trans F).trans c1,_,_,_,{nJ,rfl,?_},rfl};have mo:=X5 (l:=T) (i:=b) (by rw[C.len];calc(WH.mp w).1);have yO:=(WH.mp Qj).2;rw[dy,show rows.length-(i+1)=b by omega,mo,yO];rfl
 rfl';rw[<-A,c0,Z0]at p;let(J,I,M,N,eu,rfl):=p;rfl';calc k _ G J eu
def yP(R:Nat)(a:aX)(b L2:List Nat)(p:Nat):Int×List Int×Int:=(bh b a p p,L2.map (bh b a p),bh b a p R)
def kQ(R:Nat)(a:aX):List Nat->List Nat->List (Int×List Int×Int)|_,[]=>[]|F1,p::L2=>yP R a F1 L2 p::kQ R a (F1++[p]) L2
theorem nK R a:∀(L2 b),(kQ R a b L2).length=L2.length|[],_=>rfl|p::L2,b=>by show(kQ R a (b++[p]) L2).length+1=_;rw[nK R a L2];rfl
theorem yQ R a:∀(kx b M2)p,(kQ R a b (kx++p::M2))[kx.length]? =some (yP R a (b++kx) M2 p)|[],b,M2,p=>by rw[XC];rfl|q::kx,b,M2,p=>by show(yP R a b (kx++p::M2) q::kQ R a (b++[q]) (kx++p::M2))[kx.length+1]? =_;rw[YQ,yQ R a kx];rw[XZ];rfl
def Ql{α:Type}{l:List α}{p:α}(h:l[k]? =some p):l=l.take k++p::l.drop (k+1):=by
 let(ae,ag):=WH.mp h;conv=>lhs;rw[<-List.take_append_drop k l,X5 ae,ag]
def yR(h:z.natAbs<2^8000):Small z:={YI h (Xi (by decide) (by decide))}
def u1(h:z.natAbs<2^6640):Small z:={YI h (Xi (by decide) (by decide))}
variable {l2:List Nat->aX->Prop}{U:List Nat}{R:Nat}{A:Nat->Nat->Int}{a:aX}
def yS{a L2:List Nat}(b:U=a++L2):∀s∈a,s∈U:=λs hs=>by rw[b];calc Xa _ hs
def yT(h:fu l2 U R A a)(c:U=b++L2):l2 b a:=ii h.elim L2 b (by rw[<-c];calc h.good)
def nL(h:fu l2 U R A a)(c:U=b++L2)(af:i∈U)(d:j∈U\/j=R):Small (bh b a i j):=yR (fc h (yT h c) (yS c) af d).2
def Qm (h:fu l2 U R A a):FZ (bY U a) (kQ R a [] U) (U.map (cW U R a)):=by
 let(z,hz):=h5 h.elim U a h.good R;refine{by simp only[WC,nK],by rw[nK];calc h.bj,u1 (gj h h.good λ_ hs=>hs).2.1,λx d=>?_,λk r g=>?_}
 .let⟨s,hs,e⟩:=WT.mp d;rw[<-e];exact yR (jq h hs hz).2
 have ak:k<U.length:=by have:=(WH.mp g).1;rw[nK]at this;exact this
 obtain⟨p,f⟩:∃p,U[k]? =some p:={_,WK ak};have b:=Ql f;have hl:(U.take k).length=k:=by rw[Yp];lia
 have e:=yQ R a (U.take k) [] (U.drop (k+1)) p;simp only[hl,<-b,g,Yb]at e;cases e;have c:=WS f;have pos:=(gj h (L:=U.take k++[p]) (yT h (by rw[XZ];calc b)) (yS (by rw[XZ];calc b))).2.2;rw[(oD h b).1]at pos;refine{?_,pos,nL h b c (.inl c),λx d=>?_,nL h b c (.inr rfl),?_}
 .show((U.drop (k+1)).map _).length=_;erw[WC,W5,nK]
 .let⟨j,i,e⟩:=WT.mp d;rw[<-e];exact nL h b c (.inl ((λs hs=>Zw hs) j i))
 erw[WG,f];have t:=Ax h b;have m:List.zipWith (· *·) ((U.drop (k+1)).map (bh (U.take k) a p)) ((U.map (cW U R a)).drop (k+1))=(U.drop (k+1)).map λj=>bh (U.take k) a p j*cW U R a j:=by
  rw[<-aah,List.zipWith_map];generalize U.drop (k+1)=l;induction l with|nil=>rfl|cons x r n=>erw[abc,n,WU]
 show some _=some ((bY U a*bh (U.take k) a p R - bV (List.zipWith (· *·) ((U.drop (k+1)).map (bh (U.take k) a p)) ((U.map (cW U R a)).drop (k+1))))/bh (U.take k) a p p);rw[m,t]
def Qn(h:fu l2 U R A a)(d:U=b++p::L2)(af:i∈L2):
  pD (bh b a p p) (bh b a i p) (bY b a) ((L2++[R]).map (bh b a i)) ((L2++[R]).map (bh b a p))=(L2++[R]).map (bh (b++[p]) a i):=by
 unfold pD;rw[List.zipWith_map];have key:∀l,(∀j∈l,j∈U\/j=R)->List.zipWith (λx y=>(bh b a p p*bh b a i x-bh b a i p*bh b a p y)/bY b a) l l=l.map (bh (b++[p]) a i):=by
  intro l;induction l with|nil=>nofun|cons x r e=>intro c;erw[abc,e λj f=>c j (WE _ f),WU,(oD h d).2 i af x (c x (WD ..))]
 grind
def Qo:bt:=λK ad vs H Q _=>∃v l2 U R A a,vs=[v]/\fu l2 U R A a/\cv cZ H v (U.map λi=>(U++[R]).map (A i))/\
 ∀t l ai,aw H ai->bJ K ai t [.ref l,.int (bY U a)]->ai l=some (.lst ((U.map (cW U R a)).map V.int))->Q (.ref t) ai
def F2:bz Z Z.Dp 2 Qo:=by
 refine d0 ["equations","stairs","left","before","first","equation"] Z.Dp (λbF nd bg h2=>(zx0 (aV 1 nd (bN i4)) (zx0 (aV 2 nd (ah 0)) (zx0 (fg (i:=3) nd rfl (Or.inr rfl) aJ) (zx0 (hK Xe (b1 hN (cm K Z.cf (ah 2)) aJ (bZ _)) (zx0 (fg (i:=4) nd rfl (Or.inr rfl) (aQ K (ah 2) aJ)) (zx0 (dv (gS (ah 1) (av (ah 4)))) (zx0 (kr (i:=2) rfl nd rfl rfl (ks rfl rfl rfl rfl) (cH K (jz (jF (K:=K) rfl) (ah 2) (gO aJ) rj)) (cM (own:=[("equation",5)]) (by kernel_rfl)) (λ_ _ _ _ _=>b3 5 nd) (λ_ _ _ _ _=>dh) λ_ _ _ _ _=>ck (a5 (Qe Z) bF (aD (ah 5) (aD (ah 4) (av (ah 3)))))) (az (fg (i:=3) nd rfl (Or.inr rfl) (aQ K (ah 4) aJ))))))) (az (aT (kG (aD (a5 (Qh Z) bF (aD (ah 1) (av (ah 3)))) (av (ah 3))))))))))) λH vs Q E h=>zi0 λ_ _=>?_;let(v,l2,U,R,A,a,rfl,f,eu,k):=h;rfl';have bj:=f.bj;rfl';refine{by nofun,λS h1 ni s0 h0=>?_};generalize eS:(λ(m:Nat)(aa:L2.St)(G:am)=>∃c Lz M ys N,U=c++Lz/\m=Lz.length/\aa=[some v,some (.ref S),some M,some (.int (bY c a)),N,none]/\aw H (del G S)/\G S=some (.lst ys)/\bw (cZ (del G S)) ys (((kQ R a [] U).take c.length).map uZ)/\
   cv cZ (del G S) M (Lz.map λi=>(Lz++[R]).map (bh c a i)))=Pv
 rfl';refine kJ Pv
  (λaa G=>∃M ys N,aa=[some v,some (.ref S),some M,some (.int (bY U a)),N,none]/\aw H (del G S)/\G S=some (.lst ys)/\bw (cZ (del G S)) ys ((kQ R a [] U).map uZ)) U.length
  (by rw[<-eS];refine{[],U,v,[],none,rfl,rfl,rfl,gw ni s0,h0,bw.nil,?_};rw[show(U.map λi=>(U++[R]).map (bh [] a i))=U.map λi=>(U++[R]).map (A i)from Xs λi _=>Xs λj _=>Av f i j];calc c8 kI _ _ _ _ (gw ni s0) eu) ?_ ?_
 rintro aa G ⟨M,ys,N,rfl,cg,O,aN⟩;rfl';refine{_,bY U a,kQ R a [] U,U.map (cW U R a),rfl,{S,ys,rfl,O,aN.imp λx z r=>kI _ _ _ _ bo r},Qm f,λv2 ai B Qp=>?_};let(l,rfl,hl):=Qp;rfl';exact{by rw[WJ];decide,λt bU kR s3 bR=>k t l bU (((cg.trans bo).trans B).trans s3) (bJ.of bR) (s3 _ _ hl)};intro m aa G e6 C ct hY;rw[<-eS]at e6;let(c,Lz,M,ys,N,d,rfl,rfl,cg,O,aN,z0):=e6;let(pF,P,rfl,g,I):=z0;have F:=bo _ _ g;have n:P.length=Lz.length:=by rw[I.1,WC]
 rfl';refine cw (au.of F) ?_;rw[n];cases Lz with
 |nil=>refine hY _ ?_;symm;rw[XC]at d;subst d;refine{_,ys,N,rfl,cg,O,?_};rw[aba (by rw[nK];calc W2 _)]at aN;calc aN
 |cons p Lz=>
  refine ?_;symm;rw[show decide ((0:Int)<((p::Lz).length:Int))=true from Xm (by rw[WL];nofun)];refine ct _ ?_;rfl';have Qq:(c++p::Lz).length<=24:=by rw[<-d];exact bj
  rw[WI,WL]at Qq;rcases I.get (i:=0) (y:=(p::(Lz++[R])).map (bh c a p)) rfl with⟨F0,T,rY⟩;let(o,rfl,s):=rY;rfl';refine aZ (j:=0) (au.of F) T ?_;rfl';have W:ys.length=c.length:=by rw[aN.1,WC,Yp,nK,d,WI];nofun
  refine{{_,O},ys,O,by rw[WJ];lia,?_};rfl';have Vm:del G S pF=some (.lst P):=g;have Vn:pF≠S:=λe=>by rw[e,fG]at g;cases g
  have Qr:o≠S:=λe=>by rw[e,fG]at s;cases s
  have jQ:del (upd G S (.lst (ys++[V.ref o]))) S=del G S:=cj;generalize rZ:upd G S (.lst (ys++[V.ref o]))=jR at*;have J:jR S=some (.lst (ys++[V.ref o])):=by rw[<-rZ];exact aO
  have L:aw (del G S) jR:=by rw[<-jQ];exact bo
  cases P with
  |nil=>rw[WL]at n;cases n
  |cons x0 P=>
   cases T;refine er (K:=K) kI (Lz.map λi=>(Lz++[R]).map (bh (c++[p]) a i)) (by rw[WC,WJ];lia) λd3 a9=>?_;rfl';refine{_,au.of (L _ _ g),λQs H1 eR s1 fp=>?_};rw[uY]at fp;refine a9 Qs P H1 (au.of fp) (by rw[WC];simpa using n) (λj x z G2 dI aB hz B q=>?_) λD ai us fH B ag r2=>?_;rw[WG]at hz;cases af:Lz[j]? with
   |none=>rw[af]at hz;cases hz
   |some i=>
    rw[af]at hz;cases hz;have F3:i∈Lz:=WS af;have X:i∈U:=by rw[d];exact WZ _ (WE _ F3)
    have u:p∈U:=by rw[d];exact WZ _ (WD ..)
    let(Ft,Y,Qt):=I.get (i:=j+1) (y:=(p::(Lz++[R])).map (bh c a i)) (by rw[WU,YQ,WG,af];rfl);rw[YQ,aB]at Y;cases Y;have u2:aw (del G S) G2:=(L.trans s1).trans B;have F4:=gj f (yT f d) (yS d);have F5:∀y∈Lz++[R],y∈U\/y=R:=λy aN=>by
     rcases Xc.mp aN with aN|aN
     exact .inl (by rw[d];calc WZ _ (WE _ aN));exact .inr (WQ.mp aN)
    rfl';refine{_,_,bh c a i p,bh c a p p,bY c a,(Lz++[R]).map (bh c a i),(Lz++[R]).map (bh c a p),rfl,kI _ _ _ _ u2 Qt,{o,rfl,u2 _ _ s},by rw[WC,WC],by rw[WC,WI];show _+1<=_;lia,F4.2.2,u1 F4.2.1,
     nL f d X (.inl u),nL f d u (.inl u),λy aN=>?_,λy aN=>?_,λv2 bU s3 F6=>?_}
    let(t,bW,e):=WT.mp aN;rw[<-e];calc nL f d X (F5 t bW);let(t,bW,e):=WT.mp aN;rw[<-e];calc nL f d u (F5 t bW);rw[Qn f d F3]at F6;exact q _ bU s3 F6
   rfl';have F7:ai o=some (.lst (((p::(Lz++[R])).map (bh c a p)).map V.int)):=B _ _ (s1 _ _ (L _ _ s));refine aZ (j:=0) (au.of F7) rfl ?_;have F8:aw (del G S) (del ai S):=by rw[<-jQ];exact c2 (s1.trans B)
   have dx:D≠S:=λe=>by have:=s1 _ _ J;rw[<-e,fH]at this;cases this
   refine{_,Yo _,?_};rw[<-eS];refine{c++[p],Lz,.ref D,ys++[.ref o],some (.ref o),by rw[XZ];calc d,rfl,?_,cg.trans F8,B _ _ (s1 _ _ J),?_,{D,us,rfl,by rw[bf dx];calc ag,?_}};rw[(oD f d).1];have e:=yQ R a c [] Lz p;rw[Yb,<-d]at e;rw[WI,XA,eh e,Xp];refine(aN.imp λx z r=>kI _ _ _ _ F8 r).snoc {o,rfl,?_};rw[bf Qr,F7];show _=some (bH.lst (((bh c a p p)::(Lz.map (bh c a p)++[bh c a p R])).map V.int));rw[WU,Xp];rfl;exact{r2.1,λi x z aB hz=>by
    let(b,rfl,w):=r2.2 i x z aB hz;refine{b,rfl,?_};have Qu:b≠S:=λe=>by
     rw[e,B _ _ (s1 _ _ J)]at w;injection w with w
     injection w with w;have Qv:=WS hz;let(a6,_,iG):=WT.mp Qv;rw[<-iG]at w;cases ys with
     |nil=>have:=congrArg List.head? w;rw[Xg]at this;cases Lz<;>simp at this
     |cons xu ys=>have:=congrArg List.head? w;let(Vo,pG):=aN.get' (i:=0) (x:=xu) rfl;let(kF,cx,_):=pG.2;rw[cx,Xg]at this;cases Lz<;>simp at this
    rw[bf Qu];calc w}
end
section
variable {K:PySem.W.Frag}{ad:bC}
def r8(K:PySem.W.Frag):Re (Nat×Int):=λH v p=>∃t,v=.ref t/\bJ K H t [.int p.1,.int p.2]
def je:Re (List Bool):=λH v l=>∃a,v=.ref a/\H a=some (.lst (l.map V.aG))
def l3:Re (List Nat):=λH v l=>∃a,v=.ref a/\H a=some (.lst (l.map λi:Nat=>V.int i))
def eT(K:PySem.W.Frag):Re Frac:=λH v f=>gu K H v (f.num,f.den)
def l4(ad:bC):Re (List Nat×Bool):=λH v p=>∃a ao l,v=.ref a/\H a=some (.ins ad.StateClass ao [("states",.ref l),("closed",.aG p.2)])/\H l=some (.lst (p.1.map λi:Nat=>V.int i))
def fI(ad:bC):Re (List Int×Int):=λH v p=>∃a ao l,v=.ref a/\H a=some (.ins ad.Sums ao [("tops",.ref l),("bottom",.int p.2)])/\H l=some (.lst (p.1.map V.int))
def hv:c7 (r8 K):=λ_ _ _ _ s zz=>by let(a,e,h):=zz;calc {a,e,d9 s h}
def l5:c7 je:=λ_ _ _ _ s zz=>by let(a,e,h):=zz;calc {a,e,s _ _ h}
def gX:c7 (eT K):=λ_ _ _ _ s h=>C2 _ _ _ _ s h
def pH:c7 (l4 ad):=λ_ _ _ _ s zz=>by let(a,ao,l,e,h,ag):=zz;calc {a,ao,l,e,s _ _ h,s _ _ ag}
def yU:c7 (fI ad):=λ_ _ _ _ s zz=>by let(a,ao,l,e,h,ag):=zz;calc {a,ao,l,e,s _ _ h,s _ _ ag}
abbrev pI(K:PySem.W.Frag):Re (List (List (Nat×Int))):=cv (cv (r8 K))
def eG(c:Chain):List (List (Nat×Int)):=(List.range c.size).map (rowOf c)
def gY(c:Chain):List (List Bool):=(List.range c.size).map λi=>(List.range c.size).map λj=>reaches c i j
def l6(c:Chain):List (List Nat×Bool):=(Vaprbq.classes c).map λl=>(l,Vaprbq.closed c l)
def kS(c:Chain):List Bool:=(List.range c.size).map λi=>Vaprbq.closed c (classOf c i)
structure cP where
 a:Addr
 ao:Addr
 rows:Addr
 tots:Addr
 ends:Addr
 worths:Addr
 ways:Addr
 classes:Addr
 closed:Addr
 come:Addr
 steps:Addr
 steady:Addr
def nM(W:cP)(g:V):List (Str×V):=[("rows",.ref W.rows),("totals",.ref W.tots),("ends",.ref W.ends),("worths",.ref W.worths),("ways",.ref W.ways),("classes",.ref W.classes),("closed",.ref W.closed),
 ("kept_come",.ref W.come),("kept_steps",.ref W.steps),("kept_gain",g),("kept_steady",.ref W.steady)]
def cut(W:cP)(H:am):am:=λb=>if b=W.a\/b=W.come\/b=W.steps\/b=W.steady then none else H b
def c3:aw (cut W H) H:=λb o q=>by unfold cut at q;split at q;nofun;nofun
def Qw(h:cut W H b=some o):b≠W.a/\b≠W.come/\b≠W.steps/\b≠W.steady:=by unfold cut at h;nofun
def jS(h:H b=some o)(n:b≠W.a/\b≠W.come/\b≠W.steps/\b≠W.steady):cut W H b=some o:=by unfold cut;nofun
def eH(s:aw H aj):aw (cut W H) (cut W aj):=λb o q=>jS (s _ _ (c3 _ _ q)) (Qw q)
def l7(h:p=W.a\/p=W.come\/p=W.steps\/p=W.steady):cut W (upd H p o)=cut W H:=by funext b;unfold cut;split;rfl;rename_i n;calc aK λe=>n (by nofun)
def gA(c:Chain)(U:List Nat)(pz:Nat->Int)(i j:Nat):Int:=
 if j=c.size then aM c i*pz i+bV (((rowOf c i).filter λp=> !U.contains p.1).map λp=>p.2*pz p.1)else(if i=j then aM c i else 0)-bq (rowOf c i) j
def ey(c:Chain)(U:List Nat)(pz:Nat->Int):aX:=λi j=>(gA c U pz i j)
def kT(c:Chain)(U:List Nat)(pz:Nat->Int):List Int:=(List.range c.size).map λi=>if i∈U then cW U c.size (ey c U pz) i else pz i*bY U (ey c U pz)
def c'(c:Chain)(j:Nat):List Int×Int:=(kT c (b5 c j) λi=>if i=j then 1 else 0,bY (b5 c j) (ey c (b5 c j) λi=>if i=j then 1 else 0))
structure Qx(c:Chain)(j:Nat)(s:List Int×Int):Prop where
 len:s.1.length=c.size
 pos:0<s.2
 small:s.2.natAbs<2^7400
 is:∀(i:Nat)t,s.1[i]? =some t->(t:Rat)=(s.2:Rat)*aI c i j
structure pJ(c:Chain)(g:List Nat)(s:List Int×Int):Prop where
 len:s.1.length=c.size
 pos:0<s.2
 small:s.2.natAbs<2^7400
 is:∀(i:Nat)t,s.1[i]? =some t->¬fM c g i->∃v,stepsTo c i g=some v/\aU v/\val v=(t:Rat)/(s.2:Rat)
structure r_(c:Chain)(s:List Int×Int):Prop where
 len:s.1.length=c.size
 pos:0<s.2
 small:s.2.natAbs<2^7400
 is:∀(i:Nat)t,s.1[i]? =some t->¬iJ c i->∃v,Vaprbq.gain c i=some v/\aU v/\val v=(t:Rat)/(s.2:Rat)
structure iz(K:PySem.W.Frag)(ad:bC)(W:cP)(G:am)(c:Chain):Prop where
 rows:pI K G (.ref W.rows) (eG c)
 tots:cZ G (.ref W.tots) ((List.range c.size).map (aM c))
 ends:je G (.ref W.ends) ((List.range c.size).map (isEnd c))
 worths:cv (hr K) G (.ref W.worths) (c.states.map (·.worth))
 ways:cv je G (.ref W.ways) (gY c)
 classes:cv (l4 ad) G (.ref W.classes) (l6 c)
 closed:je G (.ref W.closed) (kS c)
def iz.mono(s:aw G a)(h:iz K ad W G c):iz K ad W a c:=
 {c8 (c8 hv) _ _ _ _ s h.rows,kI _ _ _ _ s h.tots,l5 _ _ _ _ s h.ends,c8 ht _ _ _ _ s h.worths,c8 l5 _ _ _ _ s h.ways,c8 pH _ _ _ _ s h.classes,l5 _ _ _ _ s h.closed}
structure jT (n:Nat) (kvs:List (Key×V)):Prop where
 nodup:(kvs.map (·.1)).Nodup
 lt:∀k∈kvs.map (·.1),∃j:Nat,k=Sum.inl (j:Int)/\j<n
def u3(h:jT n kvs):kvs.length<=n:=by
 have e:∀l:List Key,l.Nodup->(∀k∈l,∃j:Nat,k=Sum.inl (j:Int)/\j<n)->∃m:List Nat,l=m.map (λj:Nat=>Sum.inl (j:Int))/\m.Nodup/\∀j∈m,j<n:=by
  intro l;induction l with
  |nil=>intro _ _;exact{[],rfl,Yd,λj a=>by cases a}
  |cons x r c=>intro d hl;let(ae,ag):=W3.mp d;let(m,e,cA,dc):=c ag λk ak=>hl k (WE _ ak);let(j,b,a):=hl x (WD ..);refine{j::m,by nofun,W3.mpr {λz=>ae (by grind),cA},λk ak=>?_};grind
 let(m,f,cA,dc):=e _ h.nodup h.lt;have:=eA m (List.range n) cA λj a=>WN.mpr (dc j a);rw[W0]at this;have g:=congrArg List.length f;grind
def Qy(h:jT n kvs)(d:j<n)(a:cr kvs (Sum.inl (j:Int))=none):jT n (putK kvs (Sum.inl j) v):=by
 rw[BI v a];have ak:=Li a;refine{?_,λk r'=>?_};rw[Xp,Yr];exact{h.nodup,by simp,λx b y c e=>ak (by grind)};rw[Xp]at r';rcases Xc.mp r' with r'|r';calc h.lt k r';grind
def gZ(t:List Nat):List Key:=t.map λj:Nat=>Sum.inl j
structure bQ(K:PySem.W.Frag)(ad:bC)(W:cP)(N:Nat)(H:am)(c:Chain):Prop where
 ins:∃g,H W.a=some (.ins ad.Walk W.ao (nM W g))/\(g=.bb\/∃s,fI ad (cut W H) g s/\r_ c s)
 st:iz K ad W (cut W H) c
 come:∃kvs,H W.come=some (.b7 kvs)/\jT c.size kvs/\∀(j:Nat)v,cr kvs (Sum.inl (j:Int))=some v->fI ad (cut W H) v (c' c j)
 steps:∃kvs,H W.steps=some (.d6 kvs)/\kvs.length<=N/\∀(g:List Nat)v,cr kvs (gZ g)=some v->∃s,fI ad (cut W H) v s/\pJ c g s
 steady:∃kvs,H W.steady=some (.b7 kvs)/\jT (Vaprbq.classes c).length kvs/\∀(k:Nat)v l,cr kvs (Sum.inl (k:Int))=some v->(Vaprbq.classes c)[k]? =some l->cv (eT K) (cut W H) v (Vaprbq.steady c l)
 ne:W.come≠W.steady
structure Kept(K:PySem.W.Frag)(ad:bC)(W:cP)(N:Nat)(c:Chain)(H ai:am):Prop where
 same:aw (cut W H) (cut W ai)
 at_:bQ K ad W N ai c
def bQ.mono(s:aw H aj)(h:bQ K ad W N H c):bQ K ad W N aj c:=by
 let(g,ae,ag):=h.ins;let(k1,e,f,i):=h.come;let(k2,m,n,p):=h.steps;let(k3,q,b,d):=h.steady;have sc:=eH (W:=W) s;refine{{g,s _ _ ae,?_},h.st.mono sc,{k1,s _ _ e,f,λj v a=>yU _ _ _ _ sc (i j v a)},{k2,s _ _ m,n,λj v a=>?_},{k3,s _ _ q,b,λk v l a hl=>c8 gX _ _ _ _ sc (d k v l a hl)},h.ne};rcases ag with ag|⟨t,r,o⟩;nofun;calc .inr {t,yU _ _ _ _ sc r,o};let(t,r,o):=p j v a;calc{t,yU _ _ _ _ sc r,o}
def bQ.more(a:N<=M)(h:bQ K ad W N H c):bQ K ad W M H c:=by let(k2,b,d,e):=h.steps;calc{h.ins,h.st,h.come,{k2,b,W1 d a,e},h.steady,h.ne}
def Kept.refl(h:bQ K ad W N H c):Kept K ad W N c H H:={aw.refl _,h}
def Kept.trans(h:Kept K ad W N c H ai)(ag:Kept K ad W M c ai a):Kept K ad W M c H a:={h.same.trans ag.same,ag.at_}
def Kept.then(h:Kept K ad W N c H ai)(s:aw ai a):Kept K ad W N c H a:={h.same.trans (eH s),h.at_.mono s}
def bQ.ej(h:bQ K ad W N H c):iz K ad W H c:=h.st.mono c3
def b_(hc:ef K ad)(h:bQ K ad W N H c)(a:f∈(["rows","totals","ends","worths","ways","classes","closed","kept_come","kept_steps","kept_gain","kept_steady"]:List Str))(hl:∀g,(nM W g).lookup f=some v)(q:Q v H):ed K f W.a H Q:=by let(g,ae,_):=h.ins;calc fld ae hc.walk a (hl g) q
def l8(h:iz K ad W G c)(af:i<c.size):∃xs v,G W.rows=some (.lst xs)/\xs.length=c.size/\xs[i]? =some v/\cv (r8 K) G v (rowOf c i):=by let(a,xs,e,ae,ag):=h.rows;cases e;let(v,b,d):=ag.get (i:=i) (y:=rowOf c i) (by unfold eG;rw[WG,fv af];rfl);exact{xs,v,ae,by rw[ag.1];unfold eG;rw[WC,W0],b,d}
def kU(h:iz K ad W G c):G W.tots=some (.lst (((List.range c.size).map (aM c)).map V.int)):=by let(a,e,ae):=h.tots;nofun
def kV(af:i<c.size):(((List.range c.size).map (aM c)).map V.int)[i]? =some (.int (aM c i)):=by nofun
def yV(h:iz K ad W G c):G W.ends=some (.lst (((List.range c.size).map (isEnd c)).map V.aG)):=by let(a,e,ae):=h.ends;nofun
def yW(af:i<c.size):(((List.range c.size).map (isEnd c)).map V.aG)[i]? =some (.aG (isEnd c i)):=by nofun
def pK(h:iz K ad W G c)(af:i<c.size):∃xs l,G W.ways=some (.lst xs)/\xs.length=c.size/\xs[i]? =some (.ref l)/\G l=some (.lst (((List.range c.size).map λj=>reaches c i j).map V.aG)):=by let(a,xs,e,ae,ag):=h.ways;cases e;let(v,b,l,rfl,hl):=ag.get (by unfold gY;rw[WG,fv af];rfl);exact{xs,l,ae,by rw[ag.1];unfold gY;rw[WC,W0],b,hl}
def u4(a:j<c.size):(((List.range c.size).map λj=>reaches c i j).map V.aG)[j]? =some (.aG (reaches c i j)):=by nofun
def F9(h:iz K ad W G c):G W.closed=some (.lst ((kS c).map V.aG)):=by let(a,e,ae):=h.closed;nofun
def F_(af:i<c.size):((kS c).map V.aG)[i]? =some (.aG (Vaprbq.closed c (classOf c i))):=by unfold kS;nofun
end
section
variable {P:Program}{w:World}{K:PySem.W.Frag}{mg:Str->Option Value}{base:Heap}{ad:bC}{bx:hk} (Z:fS P w K mg base ad bx)
def F':jI Z Z.Ds 1 (lQ ad.Sums ["tops","bottom"]):=by
 refine a6 ["self","tops","bottom"] Z.Ds (λc nd d a=>(ax (cN K (ah 0) (ah 1)) (az (cN K (ah 0) (ah 2))))) λH vs Q E h=>?_;let(p,ao,us,rfl,hl,b,k):=h;let(e,f,rfl):=zl2 hl;rfl';refine cO b Z.hc.sums (by simp) (by decide) (cO aO Z.hc.sums (by simp) (by show 1<1000;decide) ?_);simp[gk];calc k
def Qz:jI Z Z.Ee 1 (lQ ad.StateClass ["states","closed"]):=by
 refine a6 ["self","states","closed"] Z.Ee (λc nd d a=>(ax (cN K (ah 0) (ah 1)) (az (cN K (ah 0) (ah 2))))) λH vs Q E h=>?_;let(p,ao,us,rfl,hl,b,k):=h;let(e,f,rfl):=zl2 hl;rfl';refine cO b Z.hc.stateClass (by simp) (by decide) (cO aO Z.hc.stateClass (by simp) (by show 1<1000;decide) ?_);simp[gk];calc k
abbrev bM(l:List Nat):List V:=l.map λi:Nat=>V.int i
theorem yX(g:Nat):∀U,ko (.int g) (bM U)=U.contains g|[]=>rfl|x::r=>by have a:=yX g r;show(ip _ _||ko _ (bM r))=_;congr 1;show(_==_)=(g==x);rw[Xu,YB,YB];lia
def Ga U:(bM U).all hQ=true:=by rw[XD];intro z hz;let(i,_,e):=WT.mp hz;rw[<-e];rfl
def yY{g:Nat}(h:au K H p (bM U))(q:Q (.aG (U.contains g)) H):m6 K false (.int g) (.ref p) H Q:=
 {p,_,rfl,.inl h,rfl,Ga U,by rwa[yX]}
def QA{g:Nat}(h:au K H p (bM U))(q:Q (.aG (!U.contains g)) H):m6 K true (.int g) (.ref p) H Q:=
 {p,_,rfl,.inl h,rfl,Ga U,by rwa[yX]}
def QB(h:j<n):hO n j=some j:=by unfold hO;rw[WO (by nofun),WO (by nofun),XM]
def iA{H:am}(h:H p=some (.lst xs))(a:j<xs.length)(q:Q (upd H p (.lst (xs.set j v)))):L2.tD (.ref p) (.int j) v H Q:=
 {p,xs,_,j,rfl,rfl,h,QB a,q}
def yZ{j:Nat}(h:au K H p xs)(a:xs[j]? =some v)(q:Q v H):xS K (.ref p) (.int j) H Q:=⟨p,xs,j,v,rfl,rfl,h,a,q⟩
def f'(c:Chain)(U:List Nat)(i:Nat)(r:List (Nat×Int))(j:Nat):Int:=(if i=j then aM c i else 0)-(if U.contains j=true then bq r j else 0)
def kW(c:Chain)(U:List Nat)(pz:Nat->Int)(i:Nat)(r:List (Nat×Int)):Int:=aM c i*pz i+bV ((r.filter λp=> !U.contains p.1).map λp=>p.2*pz p.1)
theorem u5:∀a b,bV (a++b)=bV a+bV b|[],b=>by show bV b=0+bV b;nofun|x::r,b=>by show x+bV (r++b)=x+bV r+bV b;rw[u5 r b];lia
def sa r p j:bq (r++[p]) j=bq r j+if p.1=j then p.2 else 0:=by unfold bq;erw[ZS,Xp,u5];congr 1;by_cases e:p.1=j;rw[XF (by nofun),WO e];show p.2+0=_;nofun;rw[XT (by nofun),WM e];rfl
def set_range(f a:Nat->Int)(b:g<n)(h:∀j,j<n->a j=if j=g then a g else f j):(((List.range n).map f).map V.int).set g (.int (a g))=((List.range n).map a).map V.int:=by refine List.ext_getElem (by simp) λi p q=>?_;simp[List.getElem_set];split;subst_vars;rfl;rw[h i (by simp at p;calc p),WM (XE ‹_›)]
def kX {n g:Nat} (f:Nat->Int) (a:g<n):(((List.range n).map f).map V.int)[g]? =some (.int (f g)):=by
 nofun
def sb n:List.replicate n (V.int 0)=((List.range n).map λ_=>0).map V.int:=by rw[Xg];apply XS;simp;nofun
def QC:bt:=λK ad vs H Q _=>∃W N c a U,∃i:Nat,∃b pz,vs=[.ref W.a,a,.int i,b]/\bQ K ad W N H c/\aY c/\l3 H a U/\(∀u∈U,u<c.size)/\U.length<=24/\i∈U/\cZ H b ((List.range c.size).map pz)/\
 (∀j,j<c.size->(pz j).natAbs<2^800)/\∀v ai,aw H ai->cZ ai v ((U++[c.size]).map (gA c U pz i))->Q v ai
def nN(h:bw (r8 K H) xs r):bw (λv p=>∃t,v=.ref t/\bJ K H t [p.1,p.2]) xs (r.map λp=>(V.int p.1,V.int p.2)):=by refine{by rw[WC];calc h.1,λi x y b a=>?_};let(z,hz,c):=h.get' b;rw[WG,hz]at a;cases a;calc c
def QD:bz Z Z.Du 1 QC:=by
 refine d0 ["walk","unknowns","number","prizes","factors","won","goal","share","unknown"] Z.Du (λbF nd bg h2=>(zx0 (fg (i:=4) nd rfl (Or.inr rfl) (zf0 (bl dH (bN (av aJ)) (cm K Z.cf (aC K (ah 0)))))) (zx0 (kh (aQ K (aC K (ah 0)) (ah 2)) (kg (ah 4) (ah 2) set_list)) (zx0 (aV 5 nd (bl dH (aQ K (aC K (ah 0)) (ah 2)) (aQ K (ah 3) (ah 2)))) (zx0 (dS Xe rfl (cH K (aQ K (aC K (ah 0)) (ah 2))) (ee (n:=2) rfl rfl (b0 (cG 6 nd) (b0 (cG 7 nd) ec))) (az (bB (b1 (k_in rfl) (ah 6) (ah 1) rfl) (az (wR (ah 4) (ah 6) (k_get rfl) (ah 7) I7 set_list)) (az (mZ (i:=5) nd rfl (Or.inl rfl) (bl dH (ah 7) (aQ K (ah 3) (ah 6))) m1))))) (az (aT (bl dY (dz rfl nd (cH K (ah 1)) (cM (own:=[("unknown",8)]) (by kernel_rfl)) (λ_ _ _ _ _=>b3 8 nd) (λ_ _ _ _ _=>dh) λ_ _ _ _ _=>ck (aQ K (ah 4) (ah 8))) (bN (av (ah 5))))))))))) λH vs Q E h=>?_;let(W,N,c,y0,U,i,QE,pz,rfl,O,P,z0,y1,Vp,af,z1,QF,k):=h;let(yo,rfl,bg):=z0;let(ap,rfl,a8):=z1;rfl';have st:=O.ej;have jf:c.size<=24:=P.bj;have a:=y1 i af;let(pL,fT,S,pG,y2,nO,rs,rfl,T,J):=l8 st a;have R:=du P a;have gq:=e0 P a;have nP:Small (aM c i):={by grind};have Gb:∀j,j<c.size->Small (pz j):=λj C=>{YI (QF j C) (Xi (by decide) (by decide))};rfl';refine{by rw[WJ];decide,λnQ h1 iH s0 h0=>?_};refine b_ Z.hc (O.mono s0) (by simp) (λ_=>rfl) (cw (au.of (s0 _ _ S)) ?_);rw[pG];refine{_,h0,by lia,by rw[WJ];lia,λF H1 eR s1 ae=>?_};rfl';rw[XM,sb]at ae;rfl';have L:=s0.trans s1;refine b_ Z.hc (O.mono L) (by simp) (λ_=>rfl) (aZ (au.of (L _ _ (kU st))) (kV a) ?_);refine iA ae (by grind) ?_;rfl';have eI:H F=none:=by
  cases e:H F with
  |none=>rfl
  |some o=>rw[s0 _ _ e]at eR;cases eR
 have cx:=set_range (g:=i) (λ_=>0) (f' c U i []) a λj C=>by unfold f';by_cases e:j=i;grind;rw[WM e,WM (XE e)];show 0-(if _ then bq [] j else 0)=0;rw[show bq [] j=0 from rfl];split<;>rfl
 have dn:f' c U i [] i=aM c i:=by unfold f';rw[show bq [] i=0 from rfl];split<;>lia
 rw[dn]at cx;rw[cx];have s2:aw H (del (upd H1 F (.lst (((List.range c.size).map (f' c U i [])).map V.int))) F):=by rw[cj];exact gw eI L
 have X:upd H1 F (.lst (((List.range c.size).map (f' c U i [])).map V.int)) F=some (.lst (((List.range c.size).map (f' c U i [])).map V.int)):=aO;generalize upd H1 F (.lst (((List.range c.size).map (f' c U i [])).map V.int))=G2 at s2 X;have b:=s2.trans bo;refine b_ Z.hc (O.mono b) (by simp) (λ_=>rfl) (aZ (au.of (b _ _ (kU st))) (kV a) (aZ (au.of (b _ _ a8)) (kX pz a) {nP.mul (Gb i a),?_}));rfl';refine iw λd3 a9=>?_;rfl';refine b_ Z.hc (O.mono b) (by simp) (λ_=>rfl) (aZ (au.of (b _ _ S)) y2 ?_);generalize M:(λ(m:Nat)(aa:L2.St)(G:am)=>aw H (del G F)/\G F=some (.lst (((List.range c.size).map (f' c U i ((rowOf c i).take m))).map V.int))/\∃cc cU,aa=[some (V.ref W.a),some (V.ref yo),some (V.int (i:Int)),some (V.ref ap),some (V.ref F),some (V.int (kW c U pz i ((rowOf c i).take m))),cc,cU,none])=Pv;refine a9 nO rs G2 (au.of (b _ _ T)) (uV (xs:=rs) ((rowOf c i).map λp=>(V.int (p.1:Int),V.int p.2)) Pv (by rw[WC];calc J.1) (λm aa G p=>?_) ?_ (λm aa G x Y p=>?_) λaa G p=>?_);rw[<-M]at p;have I:=p.1.trans bo;calc{au.of (I _ _ T),nN (J.imp λv z r=>hv _ _ _ _ I r)};rw[<-M];refine{s2,X,none,none,?_};show _=[_,_,_,_,_,some (V.int (aM c i*pz i+0)),_,_,_];rw[Z2];rw[<-M]at p;let(I,t,cc,cU,rfl):=p;have w:=I.trans bo;rw[WG]at Y;cases B:(rowOf c i)[m]? with
 |none=>grind
 |some p=>
  rw[B]at Y;cases Y;have y:=WS B;have d:=R.lt p y;have Vq:=R.pos p y;have QG:Small p.2:=by
   refine nP.le ?_;have bR:(bq (rowOf c i) p.1:Rat)=bO (rowOf c i)*ar c i p.1:=R.is p.1;rw[j6 R.nodup y]at bR;have bP:=hB (l:=List.range c.size) (f:=ar c i) (λj _=>(cJ P).bc.nonneg i j) p.1 (WN.mpr d);rw[(cJ P).bc.sum i a]at bP;have cV:(0:Rat)<(bO (rowOf c i):Rat):=W7.mpr R.dN;have dy:(p.2:Rat)<=(bO (rowOf c i):Rat):=by have:=Xf (XJ cV) (show 0<=1-ar c i p.1 by grind);grind
   have kP:p.2<=aM c i:=YT.mp dy;lia
  rfl';refine yY (au.of (w _ _ bg)) ?_;symm;have e7:(rowOf c i).take (m+1)=(rowOf c i).take m++[p]:=eh B;cases s:U.contains p.1 with
  |true=>
   rw[WO rfl];refine yZ (au.of t) (kX _ d) ?_;rfl';refine iA t (by simp;calc d) ?_;have cS:=set_range (n:=c.size) (g:=p.1) (f' c U i ((rowOf c i).take m)) (f' c U i ((rowOf c i).take (m+1))) d λj C=>by by_cases e:j=p.1;rw[WO e,e];rw[WM e];unfold f';rw[e7,sa,WM (XE e),Z2]
   have lu:f' c U i ((rowOf c i).take (m+1)) p.1=f' c U i ((rowOf c i).take m) p.1-p.2:=by unfold f';rw[e7,sa,WO rfl,WO s,WO s];lia
   rw[lu]at cS;rw[cS,<-M];refine{by rw[cj];calc I,aO,some (V.int (p.1:Int)),some (V.int p.2),?_};have nH:kW c U pz i ((rowOf c i).take (m+1))=kW c U pz i ((rowOf c i).take m):=by unfold kW;rw[e7,ZS,XT (by rw[s];decide),List.filter_nil,XC]
   rw[nH]
  |false=>
   rw[WM (by decide)];refine aZ (au.of (w _ _ a8)) (kX pz d) {QG.mul (Gb p.1 d),?_};rw[<-M];refine{I,?_,some (V.int (p.1:Int)),some (V.int p.2),?_};rw[t];congr 3;refine Xs λj C=>?_;unfold f';rw[e7,sa];by_cases e:p.1=j;subst e;rw[WM (show¬U.contains p.1=true by rw[s];decide),WM (show¬U.contains p.1=true by rw[s];decide)];rw[WM e,Z2];have nH:kW c U pz i ((rowOf c i).take (m+1))=kW c U pz i ((rowOf c i).take m)+p.2*pz p.1:=by unfold kW;rw[e7,ZS,XF (by rw[s];rfl),List.filter_nil,Xp,u5];rw[show bV (List.map (λp=>p.snd*pz p.fst) [p])=p.2*pz p.1 by show p.2*pz p.1+0=_;rw[Z2],Int.add_assoc]
   rw[nH]
 rfl';rw[<-M,J.1,XO]at p;let(I,t,cc,cU,rfl):=p;rfl';have w:=I.trans bo;rfl';refine er (K:=K) hj (U.map (gA c U pz i)) (by rw[WC,WJ];lia) λQd hd=>?_;rfl';refine hd yo _ G (au.of (w _ _ bg)) (by nofun) (λj x z jU dI A hz u6 q=>?_) λD bU us fH s3 bR r3=>?_;rw[WG]at A hz;cases C:U[j]? with
 |none=>rw[C]at A;cases A
 |some u=>rw[C]at A hz;cases A;cases hz;have y3:=WS C;rfl';refine aZ (au.of (u6 _ _ t)) (kX _ (y1 u y3)) (q _ jU (aw.refl _) ?_);show V.int _=V.int _;unfold f' gA;rw[WM (Xz (y1 u y3)),WO (show U.contains u=true from WX.mpr y3)]
 have r3:=ew (f:=V.int) r3;subst r3;refine{by rw[WJ];decide,λl1 dZ hg s5 cV=>?_};refine{_,_,s5 _ _ bR,cV,by rw[WC,WC,WJ];show _+1<=_;lia,λnJ d7 rT c1 dy=>k _ d7 ?_ {nJ,rfl,?_}};calc((w.trans s3).trans s5).trans c1;have e:gA c U pz i c.size=kW c U pz i (rowOf c i):=by unfold gA kW;rw[WO rfl]
 rw[dy,Xp,Xp,<-e];rfl
end
section
open VaprbBase Vaprbq
structure QH(c:Chain)(U:List Nat)(pz:Nat->Int)(s:List Int×Int):Prop where
 len:s.1.length=c.size
 pos:0<s.2
 small:s.2.natAbs<2^6640
 is:∃x:Nat->Rat,(∀(i:Nat)t,s.1[i]? =some t->(t:Rat)=(s.2:Rat)*x i)/\(∀i,i<c.size->i∉U->x i=pz i)/\∀i∈U,x i=pz i+aq (List.range c.size) (λj=>ar c i j*x j)
def u7(h:Row n P r)j:bq r j<=bO r:=by by_cases a:j∈r.map (·.1);let(p,b,e):=WT.mp a;subst e;rw[j6 h.nodup b];have ae:=ou (λq c=>XJ (W7.mpr (h.pos q c))) p b;rw[<-ov]at ae;calc YT.mp ae;rw[jp a];calc Zp h.dN
theorem Gc B:∀r(f:Nat->Int),(∀p∈r,0<=p.2/\(f p.1).natAbs<=B)->(bV (r.map λp=>p.2*f p.1)).natAbs<=(bO r).natAbs*B/\0<=bO r
 |[],f,_=>{by show(0:Int).natAbs<=_;simp,by show(0:Int)<=0;nofun}|p::r,f,h=>by
  let(c,bp):=Gc B r f λq a=>h q (WE _ a);let(ae,ag):=h p (WD ..);erw[iU];refine{?_,by omega};show(p.2*f p.1+bV (r.map λp=>p.2*f p.1)).natAbs<=_;have d:(p.2*f p.1).natAbs<=p.2.natAbs*B:=by rw[XW];exact Zc _ ag
  have b:(p.2+bO r).natAbs=p.2.natAbs+(bO r).natAbs:=Int.natAbs_add_of_nonneg ae bp;erw[b,Nat.add_mul];calc W1 (Int.natAbs_add_le _ _) (Nat.add_le_add d c)
theorem Gd q:∀r,(∀p∈r,0<=p.2)->bO (r.filter q)<=bO r
 |[],_=>Int.le_refl _|p::r,h=>by
  have b:=Gd q r λx a=>h x (WE _ a);erw[iU];cases e:q p with|true=>erw[XF e,iU];nofun|false=>grind
def u9(d:mf.aY c)(l:U.Nodup)(a:∀u∈U,u<c.size)(out:∀i∈U,∃j,j∉U/\Way (ar c) i j)(m:∀j,j<c.size->(pz j).natAbs<2^800):fu el U c.size (gA c U pz) (ey c U pz):=by
 have h:=cJ d;have f:=λu n=>Xz (a u n);have len:U.length<=24:=by have:=eA U (List.range c.size) l λx o=>WN.mpr (a x o);rw[W0]at this;exact W1 this d.bj
 refine{ml,?_,λi j=>rfl,len,λz=>absurd (a _ z) (by simp),λi af s hs=>?_,λi af=>?_};refine lg h.bc l a (λi af=>W7.mpr (e0 d (a i af)).1) (λi af j q=>?_) out;show((gA c U pz i j):Rat)=_;unfold gA;rw[WM (f j q),Yj,(du d (a i af)).is j];show _-(aM c i)*ar c i j=_;by_cases e:i=j;grind;erw[WM e,Xo];grind;unfold gA;have R:=du d (a i af);have ae:=u7 R s;have ag:=mV R s;have v:=R.small;have w:aM c i=bO (rowOf c i):=rfl;lia;unfold gA;rw[WO rfl];have g:=a i af;have R:=du d g;have r:=R.dN;have v:=R.small;have w:aM c i=bO (rowOf c i):=rfl;have A:(aM c i*pz i).natAbs<=2^273*2^800:=by rw[XW];exact X3 (Yg (by omega)) (Yg (m i g))
 let(B,C):=Gc (2^800) ((rowOf c i).filter λp=> !U.contains p.1) pz λp b=>by have k:=(WY.mp b).1;exact{Zp (R.pos p k),Yg (m p.1 (R.lt p k))}
 have D:=Gd (λp=> !U.contains p.1) (rowOf c i) λp b=>Zp (R.pos p b);calc W1 (Int.natAbs_add_le _ _) (W1 (Nat.add_le_add A (W1 B (Nat.mul_le_mul_right _ (m:=2^273) (by omega)))) (by decide))
theorem Ge(q:Nat->Bool)(f:Nat->Int):∀r:List (Nat×Int),((bV ((r.filter λp=> !q p.1).map λp=>p.2*f p.1)))=a3 r λp=>p.2*(if q p.1=true then 0 else(f p.1:Rat))
 |[]=>rfl|p::r=>by
  simp only[dE,<-Ge q f r];cases e:q p.1 with|true=>grind|false=>rw[XF (by nofun),WM (by decide)];show((p.2*f p.1+bV _:Int):Rat)=_;erw[X_,W6]
def y4(m:mf.aY c)(k:U.Nodup)(f:∀u∈U,u<c.size)(out:∀i∈U,∃j,j∉U/\Way (ar c) i j)(o:∀j,j<c.size->(pz j).natAbs<2^800):QH c U pz (kT c U pz,bY U (ey c U pz)):=by
 have h:=cJ m;have g:=u9 m k f out o;let(z,hz):=h5 g.elim U (ey c U pz) g.good c.size;let(cB,bX,p):=gj g g.good λ_ hs=>hs;refine{by show(List.map _ _).length=_;simp only[WC,W0],p,bX,λi=>if i∈U then z i else pz i,λi t b=>?_,λi af a=>WM a,λi af=>?_};have af:i<c.size:=by have:=(WH.mp b).1;unfold kT at this;nofun
 unfold kT at b;rw[WG,fv af]at b;cases b;show(((if i∈U then _ else _:Int)))=_*(if i∈U then z i else(pz i));by_cases a:i∈U;erw[WO a,WO a];calc(jq g a hz).1;erw[WM a,W6];grind;show(if i∈U then z i else(pz i))=(pz i)+aq (List.range c.size) λj=>ar c i j*(if j∈U then z j else(pz j));rw[WO af];have n:=f i af;have R:=du m n;have q:0<(aM c i:Rat):=W7.mpr R.dN;have ae:=hz i af;have r:ey c U pz i c.size=(aM c i)*pz i+aq (List.range c.size) (λj=>(bq (rowOf c i) j)*(if U.contains j=true then 0 else(pz j:Rat))):=by show((gA c U pz i c.size):Rat)=_;unfold gA;rw[WO rfl,X_,W6,Ge (λj=>U.contains j) pz,mQ (λj=>if U.contains j=true then 0 else(pz j:Rat)) _ R.lt]
 have s:aq U (λt=>ey c U pz i t*z t)=(aM c i:Rat)*z i-(aM c i:Rat)*aq U (λt=>ar c i t*z t):=by
  have:aq U (λt=>ey c U pz i t*z t)=aq U (λt=>(if i=t then 1 else 0)*((aM c i:Rat)*z t)-(aM c i:Rat)*(ar c i t*z t)):=br λt b=>by show((gA c U pz i t:Int):Rat)*z t=_;unfold gA;rw[WM (Xz (f t b)),Yj,R.is t];show(_-(aM c i:Rat)*ar c i t)*z t=_;by_cases e:i=t;grind;erw[WM e,Xo];grind
  erw[this,dm,g6 k af,cn]
 have v:aq (List.range c.size) (λj=>(bq (rowOf c i) j:Rat)*(if U.contains j=true then 0 else(pz j:Rat)))=(aM c i:Rat)*aq ((List.range c.size).filter λi=> !U.contains i) (λj=>ar c i j*pz j):=by
  rw[hE k f,fk λj d=>by rw[WO (WX.mpr d)];nofun,<-cn];have:aq ((List.range c.size).filter λi=> !U.contains i) (λj=>(bq (rowOf c i) j:Rat)*(if U.contains j=true then 0 else(pz j:Rat)))=aq ((List.range c.size).filter λi=> !U.contains i) (λj=>(aM c i:Rat)*(ar c i j*pz j)):=br λj d=>by have:=(WY.mp d).2;rw[WM (by grind),R.is j];show(aM c i:Rat)*ar c i j*_=_;grind
  grind
 have w:aq (List.range c.size) (λj=>ar c i j*(if j∈U then z j else(pz j:Rat)))=aq U (λt=>ar c i t*z t)+aq ((List.range c.size).filter λi=> !U.contains i) (λj=>ar c i j*pz j):=by
  erw[hE k f];congr 1;exact br λj d=>by rw[WO d]
  exact br λj d=>by nofun
 rw[s,r,v]at ae;rw[w];generalize aq U _=X,aq (List.filter _ _) _=Y at ae⊢;have e:=(Rat.mul_eq_zero.mp (show (aM c i:Rat)*(z i-X-pz i-Y)=0 by clear hz;grind)).resolve_left (Rat.ne_of_gt q);clear ae hz;grind
end
section
variable {P:Program}{w:World}{K:PySem.W.Frag}{mg:Str->Option Value}{base:Heap}{ad:bC}{bx:hk} (Z:fS P w K mg base ad bx)
def QI:bt:=λK ad vs H Q _=>∃W N c a U b pz,vs=[.ref W.a,a,b]/\bQ K ad W N H c/\aY c/\l3 H a U/\U.Nodup/\(∀u∈U,u<c.size)/\(∀i∈U,∃j,j∉U/\Way (ar c) i j)/\cZ H b ((List.range c.size).map pz)/\
 (∀j,j<c.size->(pz j).natAbs<2^800)/\∀v ai,aw H ai->fI ad ai v (kT c U pz,bY U (ey c U pz))->Q v ai
def y5:bz Z Z.Dt 3 QI:=by
 refine bX ["walk","unknowns","prizes","result","bottom","tops","number","top","prize"] Z.Dt λH vs Q E R nd w A h=>{_,(zx0 (aV 3 nd (a5 (F2 Z) R (av (dz rfl nd (cH K (ah 1)) (cM (own:=[("number",6)]) (by kernel_rfl)) (λ_ _ _ _ _=>b3 6 nd) (λ_ _ _ _ _=>dh) λ_ _ _ _ _=>ck (a5 (QD Z) R (aD (ah 0) (aD (ah 1) (aD (ah 6) (av (ah 2)))))))))) (zx0 (fg (i:=4) nd rfl (Or.inr rfl) (aQ K (ah 3) aJ)) (zx0 (kr (i:=5) rfl nd rfl rfl (ks rfl rfl rfl rfl) (cH K (ah 2)) (cM (own:=[("prize",8)]) (by kernel_rfl)) (λ_ _ _ _ _=>b3 8 nd) (λ_ _ _ _ _=>dh) λ_ _ _ _ _=>ck (bl dH (ah 8) (ah 4))) (zx0 (dS Xe rfl (lJ rfl Z.lR (aD (ah 1) (av (aQ K (ah 3) aJ)))) (ee (K:=K) (n:=2) rfl rfl (b0 (cG 6 nd) (b0 (cG 7 nd) ec))) (az (kh (ah 7) (kg (ah 5) (ah 6) set_list)))) (az (aT (hX (F' Z) (R.mono (by decide)) rfl (aD (ah 5) (av (ah 4)))))))))),zi0 λ_ _=>?_};clear nd w A;let(W,N,c,y0,U,QE,pz,rfl,e6,S,z0,c0,T,out,z1,v,k):=h;let(M,rfl,w):=z0;let(X,rfl,a8):=z1;rfl';have jf:c.size<=24:=S.bj;have O:=u9 S c0 T out v;have Y:=O.bj;let(cB,bX,xI):=gj O O.good λ_ hs=>hs;have u_:=u1 bX;rfl';refine er (K:=K) kI (U.map λi=>(U++[c.size]).map (gA c U pz i)) (by rw[WC,WJ];lia) λQd hd=>?_;rfl';refine hd M _ H (au.of w) (by grind) (λj x z G dI a hz b q=>?_) λD H1 us fH s1 ae r1=>?_;rw[WG]at a hz;cases s:U[j]? with
 |none=>nofun
 |some u=>rw[s]at a hz;cases a;cases hz;rfl';exact{W,N,c,_,U,u,_,pz,rfl,e6.mono b,S,{M,rfl,b _ _ w},T,Y,WS s,{X,rfl,b _ _ a8},v,q}
 refine{_,_,U,c.size,_,_,rfl,O,⟨D,us,rfl,ae,r1⟩,λt l ai s2 bW hl=>?_};generalize hd:bY U (ey c U pz)=d at*;rfl';refine d_ (j:=1) bW rfl ?_;rfl';have o:=s1.trans s2;refine er (K:=K) hj ((List.range c.size).map λj=>pz j*d) (by rw[WC,W0,WJ];lia) λQd hd2=>?_;rfl';refine hd2 X _ ai (au.of (o _ _ a8)) (by simp) (λj x z G dI a hz b q=>?_) λF bU QJ y6 P bR r3=>?_;have s:j<c.size:=by have:=(WH.mp hz).1;simpa using this
 rw[kX pz s]at a;rw[WG,fv s]at hz;cases a;cases hz;rfl';calc{Small.mul {YI (v j s) (Xi (by decide) (by decide))} u_,q _ G (aw.refl _) rfl};rfl';have r3:=ew (f:=V.int) r3;subst r3;rfl';have eI:ai F=none:=y6;refine uj λd3 a9=>?_;rfl';refine d_ (j:=0) (d9 P bW) rfl ?_;generalize B:(λ(m:Nat)(aa:L2.St)(G:am)=>aw ai (del G F)/\G F=some (.lst (((List.range c.size).map λi=>if i∈U.take m then cW U c.size (ey c U pz) i else pz i*d).map V.int))/\∃cc cU,aa=[some (V.ref W.a),some (V.ref M),some (V.ref X),some (V.ref t),some (V.int d),some (V.ref F),cc,cU,none])=Pv;refine a9 M l (bM U) ((U.map (cW U c.size (ey c U pz))).map V.int) bU (au.of (P _ _ (o _ _ w))) (au.of (P _ _ hl)) (uf (xs:=bM U) (ys:=(U.map (cW U c.size (ey c U pz))).map V.int) Pv (by simp) (λm aa G p=>?_) ?_ (λm aa G x y nR C aN p I=>?_) λaa G p=>?_);rw[<-B]at p;have b:=p.1.trans bo;calc{au.of (b _ _ (o _ _ w)),au.of (b _ _ hl)};rw[<-B];refine{gw eI P,?_,none,none,rfl};rw[bR];congr 3;rw[<-B]at p;let(b,r,cc,cU,rfl):=p;rw[WG]at C aN;cases J:U[m]? with
 |none=>rw[J]at C;cases C
 |some u=>
  rw[WG,J]at aN;rw[J]at C;cases C;cases aN;have L:=T u (WS J);rfl';refine iA (I _ _ r) (by simp;calc L) ?_;have e7:U.take (m+1)=U.take m++[u]:=eh J;have cS:=set_range (n:=c.size) (g:=u) (λi=>if i∈U.take m then cW U c.size (ey c U pz) i else pz i*d) (λi=>if i∈U.take (m+1)then cW U c.size (ey c U pz) i else pz i*d) L λj s=>by by_cases e:j=u;rw[WO e,e];rw[WM e];erw[e7,Xc,WQ,e,or_false]
  have lu:(if u∈U.take (m+1)then cW U c.size (ey c U pz) u else pz u*d)=cW U c.size (ey c U pz) u:=by rw[WO (by rw[e7];calc WZ _ (WQ.mpr rfl))]
  erw[lu]at cS;rw[cS,<-B];exact{by rw[cj];calc b.trans (c2 I),aO,_,_,rfl}
 rfl';have bn:Pv U.length aa G:=by
  have:(bM U).length=U.length:=by simp
  rw[<-this];exact p
 rw[<-B]at bn;let(b,r,cc,cU,rfl):=bn;rw[XO]at r;rfl';refine λx ao dZ nx s5 cV=>k _ dZ ((o.trans (b.trans bo)).trans s5) {x,ao,F,rfl,cV,?_};rw[s5 _ _ r];unfold kT;rw[hd]
def setB(f:Nat->Bool)(g:Nat):Nat->Bool:=λj=>if j=g then true else f j
def cnt(n:Nat)(f:Nat->Bool):Nat:=((List.range n).filter λj=> !f j).length
def QK(a:g<n)(h:f g=false):cnt n (setB f g)+1<=cnt n f:=by
 refine eA (g::(List.range n).filter λj=> !setB f g j) _ (W3.mpr {λz=>?_,Xb _ (nodup_range n)}) λx aB=>?_;have:=(WY.mp z).2;unfold setB at this;nofun;rcases WW.mp aB with e|aB;nofun;let(ae,ag):=WY.mp aB;unfold setB at ag;nofun
def QL n f:cnt n f<=n:=by unfold cnt;grind
def Gf f(a:g<n):(((List.range n).map f).map V.aG).set g (.aG true)=((List.range n).map (setB f g)).map V.aG:=by apply XS;simp;intro i ae ag;simp[Zl];unfold setB;grind
def u' f(a:g<n):(((List.range n).map f).map V.aG)[g]? =some (.aG (f g)):=by nofun
def Gg n b:List.replicate n (V.aG b)=((List.range n).map λ_=>b).map V.aG:=by apply XS;simp;nofun
def nS a(u:Nat):bM (a++[u])=bM a++[V.int u]:=Xp
structure y7(n:Nat)(M:aX)(R:List (List (Nat×Int))):Prop where
 len:R.length=n
 lt:∀(i:Nat)r,R[i]? =some r->∀p∈r,p.1<n
 nT:∀(i:Nat)r,R[i]? =some r->∀j,0<M i j↔∃p∈r,p.1=j
structure Gh(n:Nat)(M:aX)(o:Nat)(f:Nat->Bool)(ws:List Nat)(u:Option Nat)(done:List (Nat×Int)):Prop where
 root:f o=true
 sound:∀j,j<n->f j=true->Way M o j
 wait:∀w∈ws,w<n/\f w=true
 now:∀w,u=some w->w<n/\f w=true/\∀p∈done,f p.1=true
 all:∀i,i<n->f i=true->i∈ws\/u=some i\/∀j,0<M i j->f j=true
def QM:bt:=λK ad vs H Q _=>∃v R M n,∃o:Nat,vs=[v,.int o]/\pI K H v R/\y7 n M R/\n<=24/\o<n/\∀a ai f,aw H ai->(∀j,j<n->(f j=true↔Way M o j))->je ai a ((List.range n).map f)->Q a ai
def hx:aw (del (del H a) b) H:=bo.trans bo
def Gi:bz Z Z.DD 1 QM:=by
 refine d0 ["rows","origin","found","waiting","number","goal","share"] Z.DD (λT nd bg h2=>(zx0 (aV 2 nd (bl dH (bN (av js)) (cm K Z.cf (ah 0)))) (ax (kh js (kg (ah 2) (ah 1) set_list)) (ax (aV 3 nd (bN (av (ah 1)))) (ax (hK Xe (b1 hN (cm K Z.cf (ah 3)) aJ (bZ _)) (ax (aV 4 nd (C7 (ah 3))) (az (dS Xe rfl (cH K (aQ K (ah 0) (ah 4))) (ee (K:=K) (n:=2) rfl rfl (b0 (cG 5 nd) (b0 (cG 6 nd) ec))) (az (bB (jt (b9 (aQ K (ah 2) (ah 5)))) (ax (kh js (kg (ah 2) (ah 5) set_list)) (az (dv (gS (ah 3) (av (ah 5)))))) bI)))))) (az (aT (ah 2)))))))) λH vs Q E h=>zi0 λ_ _=>?_;let(v,R,M,n,o,rfl,z0,ok,jf,cF,k):=h;let(e4,rs,rfl,l9,nU):=z0;rfl';have rI:rs.length=n:=by rw[nU.1,ok.len]
 rfl';refine{by rw[WJ];decide,λnQ h1 iH s0 h0=>?_};refine cw (au.of (s0 _ _ l9)) ?_;rw[rI];refine{_,h0,by lia,by rw[WJ];lia,λF H1 eR s1 ae=>?_};rfl';rw[XM,Gg]at ae;rfl';refine iA ae (by nofun) ?_;rw[Gf _ cF];refine{by rw[WJ];decide,λB ai et N ag=>?_};have eI:H F=none:=by
  cases e:H F with
  |none=>rfl
  |some u=>rw[s0 _ _ e]at eR;cases eR
 have FB:B≠F:=λe=>by rw[e,aO]at et;cases et
 have jV:H B=none:=by
  cases e:H B with
  |none=>rfl
  |some u=>have:=(s0.trans s1) _ _ e;rw[aK FB]at et;rw[et]at this;cases this
 have l:=N F _ aO;have y8:aw H (del (del ai F) B):=by
  intro b u e;have X:b≠F:=λz=>by rw[z,eI]at e;cases e
  have Y:b≠B:=λz=>by rw[z,jV]at e;cases e
  rw[bf Y,bf X];refine N _ _ ?_;rw[aK X];exact(s0.trans s1) _ _ e
 generalize eS:(λ(m:Nat)(aa:L2.St)(G:am)=>∃f g cc y A,aa=[some (V.ref e4),some (V.int (o:Int)),some (V.ref F),some (V.ref B),cc,y,A]/\aw H (del (del G F) B)/\G F=some (.lst (((List.range n).map f).map V.aG))/\G B=some (.lst (bM g))/\Gh n M o f g none []/\m=2*cnt n f+g.length/\m<=100)=Pv;refine kJ Pv (λaa G=>∃f cc y A,aa=[some (V.ref e4),some (V.int (o:Int)),some (V.ref F),some (V.ref B),cc,y,A]/\aw H G/\G F=some (.lst (((List.range n).map f).map V.aG))/\∀j,j<n->(f j=true↔Way M o j)) (2*cnt n (setB (λ_=>false) o)+1) ?_ ?_ ?_;rw[<-eS];refine{setB (λ_=>false) o,[o],none,none,none,rfl,y8,l,ag,{by unfold setB;rw[WO rfl],λj _ I=>?_,λw hw=>?_,λw hw=>(by nofun),λi _ af=>?_},rfl,by have:=QL n (setB (λ_=>false) o);lia};unfold setB at I;split at I;rename_i e;rw[e];calc .here o;cases I;rw[WQ.mp hw];exact{cF,by unfold setB;rw[WO rfl]};unfold setB at af;split at af;rename_i e;calc .inl (by rw[e];calc WQ.mpr rfl);cases af;rintro aa G ⟨f,cc,y,A,rfl,cg,gV,hf⟩;rfl';calc k _ G f cg hf ⟨F,rfl,gV⟩;intro m aa G e6 C ct hY;rw[<-eS]at e6;let(f,g,cc,y,A,rfl,cg,gV,iy,fd,rfl,U):=e6;rfl';refine cw (au.of iy) ?_;symm;rw[WC];rcases abq g with O|⟨g,u,O⟩
 subst O;refine hY _ {f,cc,y,A,rfl,cg.trans hx,gV,λj I=>{fd.sound j I,λw=>?_}};have key:j<n/\f j=true:=w.keep (C:=λx=>x<n/\f x=true) ⟨cF,fd.root⟩ λa b df Gj=>by
  rcases fd.all a df.1 df.2 with z|z|z
  cases z;cases z;refine{?_,z b Gj};obtain⟨r,T⟩:∃r,R[a]? =some r:={_,WK (by rw[ok.len];calc df.1)};let(p,a8,e):=(ok.nT a r T b).mp Gj;rw[<-e];exact ok.lt a r T p a8
 calc key.2;rw[abr]at O;subst O;rw[show decide ((0:Int)<(((g++[u]).length:Nat):Int))=true from Xm (by rw[WI];show(0:Int)<((g.length+1:Nat):Int);lia)];refine ct _ ?_;let(sd,QN):=fd.wait u (WZ _ (WQ.mpr rfl));rfl';refine{_,.int (u:Int),iy,?_,?_};rw[WC,WI,nS];show(_++[V.int (u:Int)])[g.length+1-1]? =_;rw[X0 (by rw[WC];nofun),WC,Nat.add_sub_cancel,Z0];rfl;have mo:(bM (g++[u])).dropLast=bM g:=by rw[nS,abA]
 rw[mo];obtain⟨r,T⟩:∃r,R[u]? =some r:={_,WK (by rw[ok.len];calc sd)};let(fT,y9,nO,se,rfl,sf,nV):=nU.get T;refine iw λd3 a9=>?_;rfl';have P:aw H (del (del (upd G B (.lst (bM g))) F) B):=by
  intro b w e;have:=cg _ _ e;have Y:b≠B:=λz=>by rw[z,jV]at e;cases e
  have X:b≠F:=λz=>by rw[z,eI]at e;cases e
  rw[bf Y,bf X]at this⊢;rw[aK Y];exact this
 have sg:upd G B (.lst (bM g)) F=some (.lst (((List.range n).map f).map V.aG)):=by rw[aK (XE FB)];exact gV
 have sh:upd G B (.lst (bM g)) B=some (.lst (bM g)):=aO;generalize upd G B (.lst (bM g))=jR at P sg sh;refine aZ (au.of ((P.trans hx) _ _ l9)) y9 ?_;generalize t:(λ(i:Nat)(aa:L2.St)(G:am)=>∃D d y A,aa=[some (V.ref e4),some (V.int (o:Int)),some (V.ref F),some (V.ref B),some (V.int (u:Int)),y,A]/\aw H (del (del G F) B)/\G F=some (.lst (((List.range n).map D).map V.aG))/\G B=some (.lst (bM d))/\Gh n M o D d (some u) (r.take i)/\2*cnt n D+d.length<=2*cnt n f+g.length)=gb;refine a9 nO se jR (au.of ((P.trans hx) _ _ sf)) (uV (xs:=se) (r.map λp=>(V.int (p.1:Int),V.int p.2)) gb (by rw[WC];calc nV.1) (λi aa G p=>?_) ?_ (λi aa G x aB p=>?_) λaa G p=>?_);rw[<-t]at p;let(D,d,y,A,rfl,N,_):=p;have s3:=N.trans hx;calc{au.of (s3 _ _ sf),nN (nV.imp λv z q=>hv _ _ _ _ s3 q)};rw[<-t];refine{f,g,y,A,rfl,P,sg,sh,{fd.root,fd.sound,λw hw=>fd.wait w (Xa _ hw),λw hw=>?_,λi af y_=>?_},W2 _};cases hw;exact{sd,QN,λp a8=>by cases a8};rcases fd.all i af y_ with z|z|z
 rcases Xc.mp z with z|z
 calc .inl z;calc .inr (.inl (by rw[WQ.mp z]));cases z;calc .inr (.inr z);rw[<-t]at p;let(D,d,y,A,rfl,N,l,J,c,hm):=p;rw[WG]at aB;cases S:r[i]? with
 |none=>rw[S]at aB;cases aB
 |some p=>
  rw[S]at aB;cases aB;have W:=WS S;have L:=ok.lt u r T p W;have e7:r.take (i+1)=r.take i++[p]:=eh S;have QO:=(ok.nT u r T p.1).mpr ⟨p,W,rfl⟩;rfl';refine aZ (au.of l) (u' D L) ?_;rfl';cases Gk:D p.1 with
  |true=>
   rw[WM (by decide),<-t];refine{D,d,some (V.int (p.1:Int)),some (V.int p.2),rfl,N,l,J,{c.root,c.sound,c.wait,λw hw=>?_,c.all},hm};let(a1,a2,gg):=c.now w hw;refine{a1,a2,λq a9=>?_};rw[e7]at a9;rcases Xc.mp a9 with a9|a9
   calc gg q a9;rw[WQ.mp a9];calc Gk
  |false=>
   rw[WO rfl];refine iA l (by simp;calc L) ?_;rw[Gf _ L];refine{{_,by rw[aK FB];calc J},_,by rw[aK FB];calc J,?_,?_};rw[WC,WJ];rw[WI]at U;lia;rw[<-t];refine{setB D p.1,d++[p.1],some (V.int (p.1:Int)),some (V.int p.2),rfl,?_,?_,?_,{?_,λj I s=>?_,λw hw=>?_,λw hw=>?_,λj I s=>?_},?_};intro b w e;have:=N _ _ e;have Y:b≠B:=λz=>by rw[z,jV]at e;cases e
   have X:b≠F:=λz=>by rw[z,eI]at e;cases e
   rw[bf Y,bf X]at this⊢;rw[aK Y,aK X];calc this;rw[aK (XE FB),aO];rw[aO,nS];unfold setB;split;rfl;calc c.root;unfold setB at s;split at s;rename_i e;rw[e];calc(c.sound u sd (c.now u rfl).2.1).trans (.one QO);calc c.sound j I s;rcases Xc.mp hw with hw|hw
   let(a1,a2):=c.wait w hw;exact{a1,by unfold setB;split;rfl;calc a2};rw[WQ.mp hw];exact{L,by unfold setB;rw[WO rfl]};let(a1,a2,gg):=c.now w hw;refine{a1,by unfold setB;split;rfl;calc a2,λq a9=>?_};rw[e7]at a9;unfold setB;rcases Xc.mp a9 with a9|a9
   split;rfl;calc gg q a9;rw[WQ.mp a9,WO rfl];by_cases e:j=p.1;exact .inl (by rw[e];calc WZ _ (WQ.mpr rfl));unfold setB at s;rw[WM e]at s;rcases c.all j I s with z|z|z
   calc .inl (Xa _ z);calc .inr (.inl z);calc .inr (.inr λq a9=>by unfold setB;split;rfl;calc z q a9);have:=QK L Gk;rw[WI,XA];lia
 rw[<-t,nV.1]at p;let(D,d,y,A,rfl,N,l,J,c,hm):=p;rw[XO]at c;refine{2*cnt n D+d.length,by rw[WI,XA];lia,?_};rw[<-eS];refine{D,d,_,_,_,rfl,N,l,J,{c.root,c.sound,c.wait,λw hw=>(by cases hw),λi af y_=>?_},rfl,by rw[WI]at U;lia};rcases c.all i af y_ with z|z|z
 calc .inl z;refine .inr (.inr λj I=>?_);cases z;let(p,a8,e):=(ok.nT u r T j).mp I;rw[<-e];calc(c.now u rfl).2.2 p a8;calc .inr (.inr z)
def Gl(a:aY c):y7 c.size (ar c) (eG c):=by
 have get:∀{i:Nat}{r},(eG c)[i]? =some r->i<c.size/\r=rowOf c i:=by
  intro i r h;have af:i<c.size:=by have:=(WH.mp h).1;unfold eG at this;nofun
  unfold eG at h;nofun
 refine{by unfold eG;simp only[WC,W0],λi r h p b=>?_,λi r h j=>?_};let(af,rfl):=get h;calc(du a af).lt p b;let(af,rfl):=get h;calc tf (du a af) j
def QP:bt:=λK ad vs H Q _=>∃v c,vs=[v]/\pI K H v (eG c)/\aY c/\∀a ai,aw H ai->cv je ai a (gY c)->Q a ai
def QQ:bz Z Z.DC 2 QP:=by
 refine d0 ["rows","number"] Z.DC (λs nd C o=>(az (aT (dz rfl nd (m2 rfl Z.nt (av (cm K Z.cf (ah 0)))) (cM (own:=[("number",1)]) (by kernel_rfl)) (λ_ _ _ _ _=>b3 1 nd) (λ_ _ _ _ _=>dh) λ_ _ _ _ _=>ck (a5 (Gi Z) s (aD (ah 0) (av (ah 1)))))))) λH vs Q E h=>zi0 λ_ _=>?_;let(v,c,rfl,p,b,k):=h;let(F,rs,rfl,d,g):=id p;rfl';have l:c.size<=24:=b.bj;have m:rs.length=c.size:=by rw[g.1];unfold eG;rw[WC,W0]
 have a:(gY c).length=c.size:=by unfold gY;rw[WC,W0]
 rfl';refine C' l5 (gY c) (by rw[WJ];lia) λI t=>?_;rfl';refine cw (au.of d) ?_;rw[m,<-a];refine t H (λj z G J hz u q=>?_) λD ai us L w ag x=>k _ ai w ⟨D,us,rfl,ag,x⟩;have n:j<c.size:=by have:=(WH.mp hz).1;nofun
 unfold gY at hz;erw[WG,fv n]at hz;cases hz;rfl';refine{_,_,ar c,c.size,j,rfl,c8 (c8 hv) _ _ _ _ u p,Gl b,l,n,λM y f A B r=>q _ y A ?_};have e:(List.range c.size).map f=(List.range c.size).map λi=>reaches c j i:=Xs λi af=>by rw[Xu,B i (WN.mp af),dC (cJ b) n]
 rwa[e]at r
def Gm c i:(((List.range c.size).filter λj=>reaches c i j).filter λj=>reaches c j i)=classOf c i:=by unfold classOf numbers;rw[List.filter_filter];grind
def QR(h:ba c)(af:i<c.size):decide ((classOf c i).length=((List.range c.size).filter λj=>reaches c i j).length)=Vaprbq.closed c (classOf c i):=by rw[Xu,decide_eq_true_eq,oe h af,<-Gm];constructor;intro e k ak;have a:=ak.lt h.bc af;have:=YE.mp (List.Sublist.eq_of_length (List.filter_sublist ..) e) k (WY.mpr {WN.mpr a,(dC h af).mpr ak});calc(dC h a).mp this;intro b;rw[YE.mpr λk ak=>?_];let(k1,k2):=WY.mp ak;have a:=WN.mp k1;calc(dC h a).mpr (b k ((dC h af).mp k2))
def Gn(h:bw (je H) xs (gY c))(af:i<c.size):∃l,xs[i]? =some (.ref l)/\H l=some (.lst (((List.range c.size).map λj=>reaches c i j).map V.aG)):=by let(v,a,l,rfl,hl):=h.get (by unfold gY;rw[WG,fv af];rfl);nofun
def QS:Re Nat:=λ_ v i=>v=.int i
def va:c7 QS:=λ_ _ _ _ _ h=>h
def QT:bt:=λK ad vs H Q _=>∃v c,∃i:Nat,vs=[v,.int i]/\cv je H v (gY c)/\aY c/\i<c.size/\∀a ai,aw H ai->l4 ad ai a (classOf c i,Vaprbq.closed c (classOf c i))->Q a ai
def QU:bz Z Z.Eg 3 QT:=by
 refine d0 ["ways","number","goals","states","goal"] Z.Eg (λO nd bg o=>(zx0 (kr (i:=2) rfl nd rfl rfl (ks rfl rfl rfl rfl) (m2 rfl Z.nt (av (cm K Z.cf (ah 0)))) (cM (own:=[("goal",4)]) (by kernel_rfl)) (λ_ _ _ _ _=>b3 4 nd) (λ_ _ _ _ _=>(oY (b9 (aQ K (aQ K (ah 0) (ah 1)) (ah 4))))) λ_ _ _ _ _=>ck (ah 4)) (zx0 (kr (i:=3) rfl nd rfl rfl (ks rfl rfl rfl rfl) (cH K (ah 2)) (cM (own:=[("goal",4)]) (by kernel_rfl)) (λ_ _ _ _ _=>b3 4 nd) (λ_ _ _ _ _=>(oY (b9 (aQ K (aQ K (ah 0) (ah 4)) (ah 1))))) λ_ _ _ _ _=>ck (ah 4)) (az (aT (hX (Qz Z) (O.mono (by decide)) rfl (aD (ah 3) (av (kk (fF rfl o) (cm K Z.cf (ah 3)) (cm K Z.cf (ah 2)) (bZ _)))))))))) λH vs Q E h=>zi0 λ_ _=>?_;let(v,c,i,rfl,z0,I,af,k):=h;let(jN,xs,rfl,b,d):=z0;rfl';have P:c.size<=24:=I.bj;have A:xs.length=c.size:=by rw[d.1];unfold gY;rw[WC,W0]
 have R:=cJ I;let(li,B,r):=Gn d af;rfl';refine P5 va c.size (λj=>reaches c i j) id (by rw[WJ];lia) λd3 S=>?_;rfl';refine cw (au.of b) ?_;rw[A];refine S H (λj aj T t s q=>?_) (λj G U t W s q=>?_) λD H1 us fH s1 ae w=>?_;rfl';refine aZ (au.of (s _ _ b)) B (aZ (au.of (s _ _ r)) (u' _ t) ?_);symm;calc q;rfl';calc q _ G (aw.refl _) rfl;rfl';rw[Y_]at w;rfl';have w:=ew w;subst w;generalize y:(List.range c.size).filter (λj=>reaches c i j)=cq at*;have X:∀j∈cq,j<c.size:=λj t=>by rw[<-y]at t;exact WN.mp (WY.mp t).1
 have J:cq.length<=24:=by grind
 rfl';refine P4 va cq.length (λm=>reaches c (cq[m]?.getD 0) i) (λm=>cq[m]?.getD 0) (by rw[WJ];lia) λQd hd=>?_;rfl';refine hd D _ H1 (au.of ae) (by nofun) (λm x aj T a s q=>?_) (λm x G U a W s q=>?_) λY ai Gp Vr L ag z=>?_;rw[WG]at a;cases n:cq[m]? with
 |none=>rw[n]at a;cases a
 |some g=>rw[n]at a q;cases a;have C:=X g (WS n);let(Vs,F,u):=Gn d C;rfl';refine aZ (au.of (s _ _ (s1 _ _ b))) F (aZ (au.of (s _ _ (s1 _ _ u))) (u' _ af) ?_);exact q
 rw[WG]at a;cases n:cq[m]? with
 |none=>rw[n]at a;cases a
 |some g=>rw[n]at a q;cases a;rfl';exact q _ G (aw.refl _) rfl
 rfl';have e:((List.range cq.length).filter λm=>reaches c (cq[m]?.getD 0) i).map (λm=>cq[m]?.getD 0)=classOf c i:=by
  rw[<-Gm,y];have iG:(List.range cq.length).map (λm=>cq[m]?.getD 0)=cq:=by have:=uU 0 cq id;rw[YE.mpr λ_ _=>rfl,Y_]at this;exact this
  have M:=abt (f:=λm=>cq[m]?.getD 0) (p:=λj=>reaches c j i) (l:=List.range cq.length);rw[iG]at M;rw[M];rfl
 rw[e]at z;have z:=ew (f:=λi:Nat=>V.int (i:Int)) z;subst z;rfl';refine cw (au.of ag) (cw (au.of (L _ _ ae)) ?_);rfl';rw[WC,WC];refine λx ao bU nx N bR=>k _ bU ((s1.trans L).trans N) {x,ao,Y,rfl,?_,N _ _ ag};rw[bR,<-QR R af,y];congr 6;rw[Xu,decide_eq_true_eq,decide_eq_true_eq];lia
def si(c:Chain)(k:Nat):List (List Nat):=(List.range k).filterMap λi=>if(classOf c i).head? =some i then some (classOf c i)else none
def Gq c k:si c (k+1)=si c k++if(classOf c k).head? =some k then [classOf c k]else []:=by unfold si;erw[Y1,List.filterMap_append];grind
def Gr c k:(si c k).length<=k:=by have:=List.length_filterMap_le (λi=>if(classOf c i).head? =some i then some (classOf c i)else none) (List.range k);rwa[W0]at this
def QV:bt:=λK ad vs H Q _=>∃v c,vs=[v]/\cv je H v (gY c)/\aY c/\∀a ai,aw H ai->cv (l4 ad) ai a (l6 c)->Q a ai
def l_(hc:ef K ad)(h:H p=some (.ins ad.StateClass ao [("states",x),("closed",y)]))(q:Q x H):ed K (Str.ofString "states") p H Q:=fld h hc.stateClass (by simp) rfl q
def vb(hc:ef K ad)(h:H p=some (.ins ad.StateClass ao [("states",x),("closed",y)]))(q:Q y H):ed K (Str.ofString "closed") p H Q:=fld h hc.stateClass (by simp) rfl q
def vc(h:jT n kvs)(b:j<n):jT n (putK kvs (Sum.inl j) v):=by
 cases e:cr kvs (Sum.inl j)with|none=>calc Qy h b e|some u=>
  have ak:(putK kvs (Sum.inl j) v).map (·.1)=kvs.map (·.1):=by unfold putK;rw[m9,e,WO (show(some u).isSome=true from rfl),Xg];refine Xs λp _=>?_;lia
  exact{by rw[ak];calc h.nodup,λk a=>h.lt k (by grind)}
def QW{kvs:List (Key×V)}{j s:Nat}:(cr (putK kvs (Sum.inl j) v) (Sum.inl s)).isSome=true↔s=j\/(cr kvs (Sum.inl s)).isSome=true:=by rw[jA];grind
def Gs(h:ba c)(ak:k<c.size):(∃m,m<k/\k∈classOf c m)↔¬gi c k:=by rw[Aa h ak];constructor;intro⟨m,b,a⟩ z;let(d,e):=(dk h (by omega)).mp a;nofun;intro z;apply WR;calc λhz=>z λm b w=>hz {m,b,(dk h (by omega)).mpr ⟨w.2,w.1⟩}
def QX:bz Z Z.Ef 4 QV:=by
 refine d0 ["ways","classes","done","number","found","state"] Z.Ef (λbF nd bg h2=>(zx0 (aV 1 nd (bN i4)) (zx0 (aV 2 nd rv) (zx0 (dS Xe rfl (m2 rfl Z.nt (av (cm K Z.cf (ah 0)))) (cG 3 nd) (az (bB (iZ (m_ bg (ah 3) (ah 2)) rfl) (zx0 (aV 4 nd (a5 (QU Z) bF (aD (ah 0) (av (ah 3))))) (zx0 (dv (gS (ah 1) (av (ah 4)))) (az (dS Xe rfl (cH K (aC K (ah 4))) (cG 5 nd) (az (m' bg (ah 2) (ah 5) js rfl)))))) bI))) (az (aT (ah 1))))))) λH vs Q E h=>zi0 λ_ _=>?_;let(v,c,rfl,eu,dJ,k):=h;let(jN,xs,rfl,QY,QZ):=id eu;rfl';have jf:c.size<=24:=dJ.bj;have Q0:xs.length=c.size:=by rw[QZ.1];unfold gY;rw[WC,W0]
 have cF:=cJ dJ;rfl';refine{by nofun,λA h1 y' s0 h0=>?_};rfl';refine λB vd=>?_;rfl';have Gu:H A=none:=y';have jV:H B=none:=by
  cases e:H B with
  |none=>rfl
  |some u=>rw[s0 _ _ e]at vd;cases vd
 have za:A≠B:=λe=>by rw[<-e,h0]at vd;cases vd
 have keep:∀{G G2:am},aw H (del (del G A) B)->(∀b,b≠A->b≠B->∀o,G b=some o->G2 b=some o)->aw H (del (del G2 A) B):=by
  intro G G2 s t b o e;have P:b≠A:=λz=>by rw[z,Gu]at e;cases e
  have L:b≠B:=λz=>by rw[z,jV]at e;cases e
  have:=s _ _ e;rw[bf L,bf P]at this⊢;exact t b P L o this
 refine uk λd3 F=>?_;rfl';refine cw (au.of ((hW s0 jV) _ _ QY)) ?_;rw[Q0];generalize Y:(λ(m:Nat)(aa:L2.St)(G:am)=>aw H (del (del G A) B)/\(∃us,G A=some (.lst us)/\bw (l4 ad (del (del G A) B)) us ((si c m).map λl=>(l,Vaprbq.closed c l)))/\
  (∃kvs,G B=some (.b7 kvs)/\jT c.size kvs/\∀s,s<c.size->((cr kvs (Sum.inl (s:Int))).isSome=true↔∃q,q<m/\s∈classOf c q))/\∃cc cU M,aa=[some (V.ref jN),some (V.ref A),some (V.ref B),cc,cU,M])=Pv
 refine F c.size _ (by lia) (ug Pv ?_ (λi aa Go af p=>?_) λaa G p=>?_);rw[<-Y];refine{?_,{[],by rw[aK za];calc h0,bw.nil},{[],aO,{Yd,λq F=>by cases F},λs hs=>{λz=>(by cases z),λ zz=>by let(q,F,_):=zz;calc absurd F (by lia)}},none,none,none,rfl};intro b o e;have P:b≠A:=λz=>by rw[z,Gu]at e;cases e
 have L:b≠B:=λz=>by rw[z,jV]at e;cases e
 rw[bf L,bf P,aK L];calc s0 _ _ e;rw[<-Y]at p;let(cg,z0,z1,cc,cU,M,rfl):=p;let(us,nj,g):=z0;let(kvs,iy,ak,f):=z1;rfl';refine{_,dA.k (k:=Sum.inl (i:Int)) iy,?_};have hd:=(f i af).trans (Gs cF af);by_cases hu:gi c i;have cx:(cr kvs (Sum.inl (i:Int))).isSome=false:=by rw[<-Xj];exact λz=>hd.mp z hu
 rw[cx];rw[WO rfl];rfl';refine{_,c,i,rfl,c8 l5 _ _ _ _ (cg.trans hx) eu,dJ,af,λGv H1 s1 Q1=>?_};let(D,ao,N,rfl,j,a):=Q1;rfl';have I:=s1 _ _ nj;have R:=s1 _ _ iy;refine{{_,I},us,I,by rw[g.1,WC,WJ];have:=Gr c i;lia,?_};rfl';refine iw λQd hd2=>?_;rfl';have Gw:D≠A:=λz=>by rw[z,I]at j;cases j
 have Gx:D≠B:=λz=>by rw[z,R]at j;cases j
 have S:N≠B:=λz=>by rw[z,R]at a;cases a
 have Gy:N≠A:=λz=>by
  rw[z,I]at a;injection a with a
  injection a with a;have Gz:i∈classOf c i:=(dk cF af).mpr {.here i,.here i};cases ve:classOf c i with
  |nil=>rw[ve]at Gz;cases Gz
  |cons x r=>
   rw[ve]at a;have h0:us[0]? =some (V.int (x:Int)):=by rw[a];rfl
   let(y,_,z,bY,Vt,e,_):=g.get' h0;cases e
 generalize GA:upd H1 A (.lst (us++[V.ref D]))=G2;have g2:∀b,b≠A->G2 b=H1 b:=λb bD=>by rw[<-GA];exact aK bD
 have zb:G2 A=some (.lst (us++[V.ref D])):=by rw[<-GA];exact aO
 have O:G2 D=_:=(g2 D Gw).trans j;have w:G2 N=_:=(g2 N Gy).trans a;have Q2:G2 B=some (.b7 kvs):=(g2 B (XE za)).trans R;refine l_ Z.hc O ?_;generalize C:(λ(m:Nat)(aa:L2.St)(G:am)=>(∀b,b≠B->G b=G2 b)/\(∃d,G B=some (.b7 d)/\jT c.size d/\∀s,s<c.size->((cr d (Sum.inl (s:Int))).isSome=true↔(∃q,q<i/\s∈classOf c q)\/s∈(classOf c i).take m))/\∃M,aa=[some (V.ref jN),some (V.ref A),some (V.ref B),some (V.int (i:Int)),some (V.ref D),M])=gb;refine hd2 N (bM (classOf c i)) G2 (au.of w) (jG (xs:=bM (classOf c i)) gb (λm aa G p=>?_) ?_ (λm aa G x aB p=>?_) λaa G p=>?_);rw[<-C]at p;calc au.of ((p.1 N S).trans w);rw[<-C];refine{λ_ _=>rfl,{kvs,Q2,ak,λs hs=>?_},M,rfl};rw[f s hs];calc{λz=>.inl z,λz=>z.resolve_right (by simp)};rw[<-C]at p;let(W,z2,M,rfl):=p;let(d,T,J,U):=z2;rw[WG]at aB;cases X:(classOf c i)[m]? with
 |none=>rw[X]at aB;cases aB
 |some s=>rw[X]at aB;cases aB;have vf:=iK (WS X);rfl';have Q3:=u3 J;refine{_,hS.k (k:=Sum.inl (s:Int)) T (by rw[WJ];lia),?_};rw[<-C];refine{λb bD=>by rw[aK bD];calc W b bD,{_,aO,vc J vf,λt bW=>?_},_,rfl};rw[QW,U t bW,eh X,Xc,WQ];constructor;rintro(z|z|z);calc .inr (.inr z);calc .inl z;calc .inr (.inl z);rintro(z|z|z);calc .inr (.inl z);calc .inr (.inr z);exact .inl z
 have bn:gb (classOf c i).length aa G:=by
  have:(bM (classOf c i)).length=(classOf c i).length:=by simp
  rw[<-this];exact p
 rw[<-C,XO]at bn;let(W,z3,M,rfl):=bn;let(d,T,J,U):=z3;rw[<-Y];have u0:aw (del (del Go A) B) (del (del G A) B):=λb o e=>by
  have L:b≠B:=λz=>by rw[z,fG]at e;cases e
  rw[bf L]at e⊢;have P:b≠A:=λz=>by rw[z,fG]at e;cases e
  rw[bf P]at e⊢;rw[W b L,g2 b P];exact s1 _ _ e
 refine{cg.trans u0,{us++[V.ref D],(W A za).trans zb,?_},{d,T,J,λs hs=>?_},_,_,_,rfl};rw[Gq,WO (show(classOf c i).head? =some i from hu),Xp];refine(g.imp λx z r=>pH _ _ _ _ u0 r).snoc {D,ao,N,rfl,?_,?_};rw[bf Gx,bf Gw,W D Gx];calc O;rw[bf S,bf Gy,W N S];calc w;rw[U s hs];constructor;rintro(⟨q,F,z⟩|z);exact{q,by lia,z};exact{i,by nofun,z};rintro⟨q,F,z⟩;by_cases e:q=i;rw[e]at z;calc .inr z;exact .inl {q,by lia,z};have cx:(cr kvs (Sum.inl (i:Int))).isSome=true:=hd.mpr hu;rw[cx];rw[WM (by decide),<-Y];refine{cg,{us,nj,?_},{kvs,iy,ak,λs hs=>?_},_,_,_,rfl};rw[Gq,WM (show¬(classOf c i).head? =some i from hu),XC];calc g;rw[f s hs];constructor;rintro⟨q,F,z⟩;exact{q,by lia,z};rintro⟨q,F,z⟩;by_cases e:q=i;rw[e]at z;let(m,X,kp):=(Gs cF af).mpr hu;refine{m,X,?_};rw[<-sX cF (by lia) kp];calc z;exact{q,by lia,z};rfl';rw[<-Y]at p;let(cg,z4,_,cc,cU,M,rfl):=p;let(us,nj,g):=z4;rfl';calc k _ G (cg.trans hx) {A,us,rfl,nj,g.imp λx z r=>pH _ _ _ _ hx r}
def Q4(h:ba c)(b:j<c.size):classOf c j∈Vaprbq.classes c:=by
 have a:=(dk h b).mpr {.here j,.here j};cases e:classOf c j with|nil=>nofun|cons f r=>
  have d:f∈classOf c j:=by rw[e];exact WD ..
  have hs:=sX h b d;refine Yu.mpr {f,WN.mpr (iK d),?_};nofun
def zc(h:ba c)(hl:l∈Vaprbq.classes c)(a:j∈l):l=classOf c j:=by let(i,af,rfl,_):=vZ hl;calc(sX h af a).symm
def Q5:bt:=λK ad vs H Q _=>∃v c,vs=[v,.int c.size]/\cv (l4 ad) H v (l6 c)/\aY c/\∀a ai,aw H ai->je ai a (kS c)->Q a ai
def Q6(f a)(b:g<n)(h:∀j,j<n->a j=if j=g then a g else f j):(((List.range n).map f).map V.aG).set g (.aG (a g))=((List.range n).map a).map V.aG:=by refine List.ext_getElem (by simp) λi p q=>?_;simp[List.getElem_set];split;subst_vars;rfl;rw[h i (by simp at p;calc p),WM (XE ‹_›)]
def Q7:bz Z Z.Eh 1 Q5:=by
 refine d0 ["classes","count","closed","found","state"] Z.Eh (λbF nd bg Y=>(zx0 (aV 2 nd (bl dH (bN (av js)) (ah 1))) (zx0 (dS Xe rfl (cH K (ah 0)) (cG 3 nd) (az (dS Xe rfl (cH K (aC K (ah 3))) (cG 4 nd) (az (kh (aC K (ah 3)) (kg (ah 2) (ah 4) set_list)))))) (az (aT (ah 2)))))) λH vs Q E h=>zi0 λ_ _=>?_;let(v,c,rfl,z0,dJ,k):=h;let(P,R,rfl,r,w):=z0;rfl';have jf:c.size<=24:=dJ.bj;have S:=cJ dJ;rfl';refine{by rw[WJ];decide,λnQ h1 iH s0 h0=>?_};refine{_,h0,by nofun,by rw[WJ];lia,λF H1 eR s1 ae=>?_};rfl';rw[Gg]at ae;rfl';have eI:H F=none:=by
  cases e:H F with
  |none=>rfl
  |some u=>rw[s0 _ _ e]at eR;cases eR
 have A:=s0.trans s1;refine iw λd3 a9=>?_;rfl';generalize B:(λm(aa:L2.St)(G:am)=>aw H (del G F)/\G F=some (.lst (((List.range c.size).map λj=>((Vaprbq.classes c).take m).any (λl=>l.contains j)&&Vaprbq.closed c (classOf c j)).map V.aG))/\∃T o,aa=[some (V.ref P),some (V.int (c.size:Int)),some (V.ref F),T,o])=Pv;refine a9 P R H1 (au.of (A _ _ r)) (jG (xs:=R) Pv (λm aa G p=>?_) ?_ (λm aa G x f p=>?_) λaa G p=>?_);rw[<-B]at p;calc au.of ((p.1.trans bo) _ _ r);rw[<-B];calc{gw eI A,ae,none,none,rfl};rw[<-B]at p;let(N,U,T,o,rfl):=p;have C:=N.trans bo;let(y,q,a,ao,sJ,rfl,df,D):=w.get' f;unfold l6 at q;rw[WG]at q;cases O:(Vaprbq.classes c)[m]? with
 |none=>nofun
 |some l=>
  rw[O]at q;cases q;have W:=WS O;rfl';refine iw λQd hd=>?_;rfl';refine l_ Z.hc (C _ _ df) ?_;generalize b:(λ(t:Nat)(aa:L2.St)(G:am)=>aw H (del G F)/\G F=some (.lst (((List.range c.size).map λj=>(((Vaprbq.classes c).take m).any (λl=>l.contains j)||(l.take t).contains j)&&Vaprbq.closed c (classOf c j)).map V.aG))/\∃o,aa=[some (V.ref P),some (V.int (c.size:Int)),some (V.ref F),some (V.ref a),o])=gb;refine hd sJ (bM l) G (au.of (C _ _ D)) (jG (xs:=bM l) gb (λt aa G p=>?_) ?_ (λt aa G x f p=>?_) λaa G p=>?_);rw[<-b]at p;calc au.of ((p.1.trans bo) _ _ D);rw[<-b];refine{N,?_,o,rfl};rw[U];erw[aaL,List.contains_nil,aae];rw[<-b]at p;let(d,i,d8,rfl):=p;rw[WG]at f;cases I:l[t]? with
  |none=>rw[I]at f;cases f
  |some s=>
   rw[I]at f;cases f;have hs:s∈l:=WS I;have J:=zc S W hs;have L:s<c.size:=by rw[J]at hs;exact iK hs
   rfl';refine vb Z.hc ((d.trans bo) _ _ df) ?_;refine iA i (by simp;calc L) ?_;have cS:=Q6 (λj=>(((Vaprbq.classes c).take m).any (λl=>l.contains j)||(l.take t).contains j)&&Vaprbq.closed c (classOf c j)) (λj=>(((Vaprbq.classes c).take m).any (λl=>l.contains j)||(l.take (t+1)).contains j)&&Vaprbq.closed c (classOf c j)) L λj M=>by by_cases e:j=s;rw[WO e,e];rw[WM e,eh I];congr 2;rw[Xu,WX,WX,Xc,WQ];exact{λz=>z.resolve_right e,.inl}
   have lu:((((Vaprbq.classes c).take m).any (λl=>l.contains s)||(l.take (t+1)).contains s)&&Vaprbq.closed c (classOf c s))=Vaprbq.closed c l:=by simp only[eh I,show(l.take t++[s]).contains s=true from WX.mpr (WZ _ (WQ.mpr rfl)),abS,Zd,<-J]
   rw[lu]at cS;rw[cS,<-b];exact{by rw[cj];calc d,aO,_,rfl}
  have bn:gb l.length aa G:=by
   have:(bM l).length=l.length:=by simp
   rw[<-this];exact p
  rw[<-b,XO]at bn;let(d,i,d8,rfl):=bn;rw[<-B];refine{d,?_,_,_,rfl};erw[i,eh O];erw[List.any_append,Yx,List.any_nil,aae]
 rfl';have X:R.length=(Vaprbq.classes c).length:=by rw[w.1];unfold l6;rw[WC]
 rw[<-B,X,XO]at p;let(N,U,T,o,rfl):=p;rfl';refine k _ G (N.trans bo) {F,rfl,?_};rw[U];unfold kS;congr 3;refine Xs λj M=>?_;have M:=WN.mp M;erw[show(Vaprbq.classes c).any (λl=>l.contains j)=true from Yy.mpr {_,Q4 S M,WX.mpr ((dk S M).mpr {.here j,.here j})},Zd]
def Q8:bt:=λK ad vs H Q _=>∃v a,vs=[v]/\cv (lY K) H v a/\(oy (a.map (·.2))\/a=[])/\∀b ai,aw H ai->cZ ai b (gJ (a.map (·.2)))->Q b ai
def pM(xs:List Int)(i:Nat):Nat:=(xs.take i).foldl (λd s=>Nat.gcd s.natAbs d) 0
def Q9(h:xs[i]? =some x):pM xs (i+1)=Nat.gcd x.natAbs (pM xs i):=by unfold pM;rw[eh h,List.foldl_append];rfl
def Q_(h:oy b):∃x∈c5 b,x≠0/\x.natAbs<=10^81:=by
 let(c,_,d,e):=j7 b 1 (by nofun) λw a=>(h.ok w a).1.pos;let(w,a,f):=h.iR;refine{w.num*((b' b/w.den:Nat)),WT.mpr ⟨w,a,rfl⟩,?_,?_};have:0<b' b/w.den:=Y' (X8 c (d w a)) (h.ok w a).1.pos;exact abi f (by lia);erw[XW,W8];have g:=(h.ok w a).1.top;have i:b' b/w.den<=10^72:=by refine W1 (Ya ..) ?_;refine W1 (e (10^9) λw a=>(h.ok w a).1.bot) ?_;rw[ZW,<-ZX];exact XX (by nofun) (by have:=h.bj;lia)
 calc _<=10^9*10^72:=X3 g i
  _=10^81:=by decide
def GB:bz Z Z.Es 4 Q8:=by
 refine d0 ["steps","shares","divisor","share","goal","weight"] Z.Es (λP nd bg R=>(zx0 (aV 1 nd (aQ K (a5 (FY Z) P (av (dz rfl nd (cH K (ah 0)) (cM (own:=[("goal",4),("weight",5)]) (by kernel_rfl)) (λ_ _ _ _ _=>ee (n:=2) rfl rfl (b0 (b3 4 nd) (b0 (b3 5 nd) ec))) (λ_ _ _ _ _=>dh) λ_ _ _ _ _=>ck (ah 5)))) aJ)) (zx0 (fg (i:=2) nd rfl (Or.inr rfl) aJ) (zx0 (dS Xe rfl (cH K (ah 1)) (cG 3 nd) (az (fg (i:=2) nd rfl (Or.inr rfl) (a5 (nw Z) P (aD (ah 3) (av (ah 2))))))) (az (aT (dz rfl nd (cH K (ah 1)) (cM (own:=[("share",3)]) (by kernel_rfl)) (λ_ _ _ _ _=>b3 3 nd) (λ_ _ _ _ _=>dh) λ_ _ _ _ _=>ck (bl jb (ah 3) (ah 2))))))))) λH vs Q E h=>zi0 λ_ _=>?_;let(v,c,rfl,z0,hw,k):=h;let(S,xs,rfl,F,u):=z0;rfl';have X:c.length<=8:=by
  rcases hw with hw|hw
  have:=hw.bj;rw[WC]at this;calc this;nofun
 obtain⟨ps,I,J⟩:∃ps:List (V×V),bw (λv(p:V×V)=>∃t,v=.ref t/\bJ K H t [p.1,p.2]) xs ps/\bw (λ(p:V×V)(s:Nat×Frac)=>hr K H p.2 s.2) ps c:=by
  have gen:∀(xs:List V)(c:List (Nat×Frac)),bw (lY K H) xs c->∃ps:List (V×V),bw (λv(p:V×V)=>∃t,v=.ref t/\bJ K H t [p.1,p.2]) xs ps/\bw (λ(p:V×V)(s:Nat×Frac)=>hr K H p.2 s.2) ps c:=by
   intro xs;induction xs with
   |nil=>intro c h;have:c=[]:=Ye.mp h.1.symm;subst this;calc{[],bw.nil,bw.nil}
   |cons x xs Y=>
    intro c h;cases c with
    |nil=>calc absurd h.1 (by simp)
    |cons s c=>
     let(ps,U,bn):=Y c {by have:=h.1;simpa using this,λi x y a b=>h.2 (i+1) x y a b};let(t,kN,e,L,hf):=h.2 0 x s rfl rfl;refine{(V.int (s.1:Int),kN)::ps,{by rw[WL,WL,U.1],λi a b w A=>?_},{by rw[WL,WL,bn.1],λi a b w A=>?_}};cases i with
     |zero=>cases w;cases A;calc⟨t,e,L⟩
     |succ i=>exact U.2 i a b w A
     cases i with
     |zero=>grind
     |succ i=>exact bn.2 i a b w A
  exact gen xs c u
 rfl';refine x1 (K:=K) (by decide) (ht (K:=K)) (c.map (·.2)) (by rw[WC,WJ];lia) λd3 a9=>?_;rfl';refine a9 S xs ps H (au.of F) (by rw[WC];calc u.1) I (λn p z G dI a8 hz W q=>?_) λD H1 us fH s1 ae r1=>?_;rw[WG]at hz;cases hs:c[n]? with
 |none=>nofun
 |some s=>rw[hs]at hz;cases hz;rfl';exact q _ G (aw.refl _) (ht _ _ _ _ W (J.2 n p s a8 hs))
 refine{_,c.map (·.2),rfl,⟨D,us,rfl,ae,r1⟩,by grind,λt l ai s2 L hl=>?_};refine d_ (j:=0) L rfl ?_;rfl';generalize B:c5 (c.map (·.2))=T at*;have h3:∀(j:Nat)x,T[j]? =some x->0<gcdAll T/\gcdAll T<=10^81:=by
  intro j x r;rcases hw with hw|hw
  let(x0,g,M,N):=Q_ hw;rw[B]at g;refine{wv g M,W1 (X8 (by nofun) ?_) N};calc((qP T 0 _).mp (Yf _)).2 x0 g;rw[hw]at B;rw[<-B]at r;cases r
 have Vu:T.length<=8:=by rw[<-B];unfold c5;rw[WC,WC];exact X
 refine iw λQd hd=>?_;rfl';generalize C:(λ(i:Nat)(aa:L2.St)(G:am)=>G=ai/\∃o,aa=[some (V.ref S),some (V.ref l),some (V.int (pM T i:Int)),o,none,none])=Pv;refine hd l _ ai (au.of hl) (jG (xs:=T.map V.int) Pv (λi aa G p=>?_) ?_ (λi aa G x d p=>?_) λaa G p=>?_);rw[<-C]at p;rw[p.1];calc au.of hl;rw[<-C];calc⟨rfl,none,rfl⟩;rw[<-C]at p;let(rfl,o,rfl):=p;rw[WG]at d;cases af:T[i]? with
 |none=>rw[af]at d;cases d
 |some x=>rw[af]at d;cases d;rfl';refine{_,_,rfl,?_};rw[<-C];refine{rfl,some (V.int x),?_};rw[Q9 af];rfl
 rfl';rw[<-C,WC]at p;let(rfl,o,rfl):=p;rfl';have eg:pM T T.length=gcdAll T:=by unfold pM gcdAll;rw[XO]
 rw[eg];have sj:gJ (c.map (·.2))=T.map λt=>t/(gcdAll T:Int):=by unfold gJ;rw[B]
 rw[sj]at k;rfl';refine er (K:=K) hj (T.map λt=>t/(gcdAll T:Int)) (by rw[WC,WJ];lia) λQd hd=>?_;rfl';refine hd l _ G (au.of hl) (by rw[WC,WC]) (λj x z G2 dI d hz W q=>?_) λrH bU Gp et s3 bR O=>?_;rw[WG]at d hz;cases r:T[j]? with
 |none=>rw[r]at d;cases d
 |some x=>rw[r]at d hz;cases d;cases hz;let(p8,Q'):=h3 j x r;rfl';exact{{by nofun,(jP (m:=300) (W1 Q' (by decide)) (by decide)).log},q _ G2 (aw.refl _) rfl}
 have O:=ew (f:=V.int) O;subst O;calc k _ bU ((s1.trans s2).trans s3) ⟨rH,rfl,bR⟩
def Rb:bt:=λK ad vs H Q _=>∃v c,∃i:Nat,vs=[v,.int i]/\hZ K ad H v c/\aY c/\i<c.size/\∀a ai,aw H ai->cv (r8 K) ai a (rowOf c i)->Q a ai
def nW{c:Chain}(af:i<c.size):c.states[i]? =some (c.node i):=by have e:=WK af;unfold Vaprbq.Chain.node;rw[e];rfl
def zd(C:pA K ad H a ao an d b e xs c)(af:i<c.size):∃v,xs[i]? =some v/\cv (lY K) H v (c.node i).steps:=
 C.step.get (by rw[WG,nW af];rfl)
def Rc:bz Z Z.Er 5 Rb:=by
 refine bX ["chain","number","steps","shares","step","share"] Z.Er λH vs Q E T nd U d h=>{_,(zx0 (aV 2 nd (aQ K (aC K (ah 0)) (ah 1))) (zx0 (bB (b1 (fF (K:=K) rfl d) (cm K Z.cf (ah 2)) aJ (bZ _)) (az (aT (bN (av (kG (aD (ah 1) (av aJ))))))) bI) (zx0 (aV 3 nd (a5 (GB Z) T (av (ah 2)))) (az (aT (dz rfl nd (lJ rfl Z.lR (aD (ah 2) (av (ah 3)))) (cM (own:=[("step",4),("share",5)]) (by kernel_rfl)) (λ_ _ _ _ _=>ee (K:=K) (n:=2) rfl rfl (b0 (b3 4 nd) (b0 (b3 5 nd) ec))) (λ_ _ _ _ _=>(oY (b1 hN (ah 5) aJ (bZ _)))) λ_ _ _ _ _=>ck (kG (aD (aQ K (ah 4) aJ) (av (ah 5)))))))))),zi0 λ_ _=>?_};clear nd U d;let(v,c,i,rfl,F,V,af,k):=h;let(a,ao,an,jN,W,ix,xs,rfl,C):=id F;rfl';let(vs,I,u):=zd C af;let(X,us,rfl,w,g):=id u;have no:=gK V af;have lW:=no.bj;rfl';refine pB Z.hc C.ins (aZ (au.of C.steps) I ?_);rfl';refine cw (au.of w) ?_;rfl';rw[g.1];by_cases o:(c.node i).steps=[];rw[WO (by nofun)];refine{by rw[WJ];decide,λt H1 eR s1 ae=>{by rw[WJ];decide,λl ai et B ag=>k _ ai (s1.trans B) {l,_,rfl,ag,?_}}};unfold rowOf;rw[WO o];calc bw.nil.snoc (xs:=[]) (ys:=[]) {t,rfl,bJ.of (B _ _ ae)};rfl';rw[WM λz=>o (Ye.mp (by nofun))];rfl';have Y:=qQ no o;refine{_,_,rfl,u,.inl Y,λv2 H1 s1 A=>?_};rfl';obtain⟨q,J,L⟩:∃q:Frac->Int,gJ ((c.node i).steps.map (·.2))=(c.node i).steps.map (λp=>q p.2)/\ft (c.node i).steps=(c.node i).steps.map (λp=>(p.1,q p.2)):=by let(_,q,_,J,L,_):=oz no o;exact⟨q,J,L⟩
 rw[J]at A;let(l,rfl,hl):=A;generalize Rd:(c.node i).steps=ss at*;rfl';refine uT (K:=K) (by decide) (hv (K:=K)) ss.length (λm=>decide (0<q (ss[m]?.getD (0,VaprbBase.Frac.zero)).2)) (λm=>((ss[m]?.getD (0,VaprbBase.Frac.zero)).1,q (ss[m]?.getD (0,VaprbBase.Frac.zero)).2)) (by rw[WJ];lia) λd3 a9=>?_;rfl';refine a9 X l us _ H1 (au.of (s1 _ _ w)) (au.of hl) g.1 (by nofun) (λm x y aj pE N b s O=>?_) (λm x y G dI N b hf s P=>?_) λD ai M fH B ag R=>?_;rw[WG,WG]at b;cases r:ss[m]? with
 |none=>rw[r]at b;cases b
 |some p=>rw[r]at b O;cases b;rfl';exact O
 rw[WG,WG]at b;cases r:ss[m]? with
 |none=>rw[r]at b;cases b
 |some p=>rw[r]at b P;cases b;let(t,kN,rfl,bW,_):=g.2 m x p N r;rfl';exact d_ (j:=0) (d9 s (d9 s1 bW)) rfl {by rw[WJ];decide,λrM bU kR s3 bR=>P _ bU s3 {rM,rfl,bJ.of bR}}
 refine k _ ai (s1.trans B) {D,M,rfl,ag,?_};have e:((List.range ss.length).filter λm=>decide (0<q (ss[m]?.getD (0,VaprbBase.Frac.zero)).2)).map (λm=>((ss[m]?.getD (0,VaprbBase.Frac.zero)).1,q (ss[m]?.getD (0,VaprbBase.Frac.zero)).2))=rowOf c i:=by
  unfold rowOf;rw[Rd,WM o,L];have S:=abt (f:=λm=>((ss[m]?.getD (0,VaprbBase.Frac.zero)).1,q (ss[m]?.getD (0,VaprbBase.Frac.zero)).2)) (p:=λp:Nat×Int=>decide (0<p.2)) (l:=List.range ss.length);have dn:(List.range ss.length).map (λm=>((ss[m]?.getD (0,VaprbBase.Frac.zero)).1,q (ss[m]?.getD (0,VaprbBase.Frac.zero)).2))=ss.map λp=>(p.1,q p.2):=by have:=uU (0,VaprbBase.Frac.zero) ss λp:Nat×Frac=>(p.1,q p.2);rw[YE.mpr λ_ _=>rfl]at this;exact this
  rw[dn]at S;rw[S];rfl
 rw[e]at R;calc R
def Rf:bt:=λK ad vs H Q _=>∃v c,∃i,vs=[v]/\cv (lY K) H v (c.node i).steps/\aY c/\i<c.size/\∀a ai,aw H ai->cv (eT K) ai a ((c.node i).steps.map λs=>chance c i s.1)->Q a ai
def Rg  (d:aY c)  (af:i<c.size) (e:(c.node i).steps≠ []):∃(q:Frac->Int) (T:Nat),gJ ((c.node i).steps.map (·.2))=(c.node i).steps.map (λp=>q p.2)/\bV (gJ ((c.node i).steps.map (·.2)))=T/\0<T/\T<2^273/\∀p∈(c.node i).steps,frac (q p.2) T=chance c i p.1:=by
 have no:=gK d af;let(k,q,k0,f,g,s):=oz no e;have R:=du d af;have a:rowOf c i=(ft (c.node i).steps).filter λp=>decide (0<p.2):=by unfold rowOf;rw[WM e]
 have l:∀p∈ft (c.node i).steps,0<=p.2:=λp h=>by grind
 let(m,j):=oA _ l;rw[<-a]at m j;have t:bO (ft (c.node i).steps)=bV (gJ ((c.node i).steps.map (·.2))):=by unfold bO;erw[g,f,Xg];rfl
 have n:=R.dN;have o:=R.small;refine{q,(bO (rowOf c i)).toNat,f,?_,by nofun,by nofun,λp h=>?_}
 .grind
 refine k9 (h8 _ _) (oB _ _) ?_;rw[hC _ (by lia)];have r:(((bO (rowOf c i)).toNat))=bO (rowOf c i):=by lia
 rw[r];have ae:=R.is p.1;have ag:bq (rowOf c i) p.1=q p.2:=by
  rw[j,g];have nd:(((c.node i).steps.map λp=>(p.1,q p.2)).map (·.1)).Nodup:=by rw[Xg];exact no.nodup
  exact j6 nd (WT.mpr ⟨p,h,rfl⟩)
 rw[ag]at ae;have u:=W7.mpr n;rw[ae];show _=ar c i p.1;grind
def Rh:bz Z Z.Et 5 Rf:=by
 refine d0 ["steps","shares","total","share"] Z.Et (λu nd S w=>(zx0 (aV 1 nd (a5 (GB Z) u (av (ah 0)))) (ax (fg (i:=2) nd rfl (Or.inr rfl) (gm (nq rfl rfl) (by rfl) Z.nu PyProof.Rows.Boot.«sum» (av (ah 1)))) (az (aT (dz rfl nd (cH K (ah 1)) (cM (own:=[("share",3)]) (by kernel_rfl)) (λ_ _ _ _ _=>b3 3 nd) (λ_ _ _ _ _=>dh) λ_ _ _ _ _=>ck (a5 (jJ Z) u (aD (ah 3) (av (ah 2)))))))))) λH vs Q E h=>zi0 λ_ _=>?_;let(v,c,i,rfl,y,A,af,k):=h;rfl';have no:=gK A af;have U:=no.bj;by_cases e:(c.node i).steps=[];rfl';refine{_,_,rfl,y,.inr e,λC H1 s1 a=>?_};rfl';rw[e]at a;let(l,rfl,hl):=a;rfl';refine{l,[],rfl,au.of hl,?_};rfl';rw[e]at k;refine er (K:=K) (gX (K:=K)) [] (by nofun) λQd hd=>?_;rfl';calc hd l _ H1 (au.of hl) rfl (λj x z G2 D d hz=>(by nofun)) λf g b F n o r=>k _ g (s1.trans n) ⟨f,b,rfl,o,r⟩;let(q,T,G,I,J,L,M):=Rg A af e;rfl';refine{_,_,rfl,y,.inl (qQ no e),λC H1 s1 a=>?_};let(l,rfl,hl):=a;rfl';refine{l,_,rfl,au.of hl,?_};rw[<-nI,I];rw[G]at hl;rfl';refine er (K:=K) (gX (K:=K)) ((c.node i).steps.map λs=>chance c i s.1) (by erw[WC,WJ];lia) λQd hd=>?_;rfl';refine hd l _ H1 (au.of hl) (by nofun) (λj x z G2 D d hz V O=>?_) λf g b F n o r=>k _ g (s1.trans n) ⟨f,b,rfl,o,r⟩;erw[WG,WG]at d;have d:=d;rw[WG]at hz;cases t:(c.node i).steps[j]? with
 |none=>nofun
 |some p=>rw[t]at d hz;cases d;cases hz;rfl';refine{_,_,rfl,by nofun,(jP (m:=273) (Yg L) (by decide)),λW P R B=>O _ P R ?_};rw[rX _ _ J,M p (WS t)]at B;calc B
def Ri:bt:=λK ad vs H Q _=>∃p ao a b c,vs=[.ref p,a,b]/\H p=some (.ins ad.Walk ao [])/\hZ K ad H a c/\aY c/\pI K H b (eG c)/\
 ∀W ai,W.a=p->aw (del H p) (cut W ai)->bQ K ad W 0 ai c->Q .bb ai
def ze(b:aY c)(af:i<c.size):(rowOf c i).length<=8:=by have no:=gK b af;unfold rowOf;by_cases a:(c.node i).steps=[];nofun;rw[WM a];let(_,q,_,_,d,_):=oz no a;refine W1 (YY ..) ?_;erw[d,WC];calc no.bj
def Rj:jI Z Z.Eo 5 (Ri K ad):=by
 refine a6 ["self","chain","rows","row","goal","share","steps"] Z.Eo (λbF nd bg h2=>(zx0 (cN K (ah 0) (ah 2)) (zx0 (cN K (ah 0) (dz rfl nd (cH K (ah 2)) (cM (own:=[("row",3)]) (by kernel_rfl)) (λ_ _ _ _ _=>b3 3 nd) (λ_ _ _ _ _=>dh) λ_ _ _ _ _=>ck (gm (nq rfl rfl) (by rfl) Z.nu PyProof.Rows.Boot.«sum» (av (dz rfl nd (cH K (ah 3)) (cM (own:=[("goal",4),("share",5)]) (by kernel_rfl)) (λ_ _ _ _ _=>ee (K:=K) (n:=2) rfl rfl (b0 (b3 4 nd) (b0 (b3 5 nd) ec))) (λ_ _ _ _ _=>dh) (λ_ _ _ _ _=>ck (ah 5))))))) (zx0 (cN K (ah 0) (dz rfl nd (cH K (aC K (ah 1))) (cM (own:=[("steps",6)]) (by kernel_rfl)) (λ_ _ _ _ _=>b3 6 nd) (λ_ _ _ _ _=>dh) λ_ _ _ _ _=>ck (kk (fF (K:=K) rfl h2) (cm K Z.cf (ah 6)) aJ (bZ _)))) (zx0 (cN K (ah 0) (aC K (ah 1))) (zx0 (cN K (ah 0) (a5 (QQ Z) bF (av (ah 2)))) (zx0 (cN K (ah 0) (a5 (QX Z) bF (av (aC K (ah 0))))) (zx0 (cN K (ah 0) (a5 (Q7 Z) bF (aD (aC K (ah 0)) (av (cm K Z.cf (ah 2)))))) (zx0 (cN K (ah 0) rv) (zx0 (cN K (ah 0) KW) (zx0 (cN K (ah 0) wJ) (az (cN K (ah 0) rv))))))))))))) λH vs Q E h=>?_;let(p,ao,GC,fT,c,rfl,X,Rk,dJ,bF,k):=h;rfl';have jf:c.size<=24:=dJ.bj;have cF:=cJ dJ;let(a,Rl,an,U,nF,ix,xs,rfl,C):=Rk;let(y,rs,rfl,l9,nU):=bF;have Rm:a≠p:=λe=>by have:=C.ins;rw[e,X]at this;injection this with this;injection this with _ _ this;cases this
 have Vv:an≠p:=λe=>by have:=C.names;rw[e,X]at this;cases this
 have Vw:U≠p:=λe=>by have:=C.worths;rw[e,X]at this;cases this
 have Vx:nF≠p:=λe=>by have:=C.steps;rw[e,X]at this;cases this
 have Vy:y≠p:=λe=>by rw[e,X]at l9;cases l9
 have vg:∀{t:Addr}{ys:List V},bJ K H t ys->bJ K (del H p) t ys:=by
  intro t ys h;rcases h with(h|⟨o,h⟩)|h
  calc .inl (.inl (by rw[bf λe=>by rw[e,X]at h;cases h];calc h));calc .inl (.inr {o,by rw[bf λe=>by rw[e,X]at h;cases h];calc h});exact .inr h
 have ls:∀{l:Addr}{ys:List V},H l=some (.lst ys)->del H p l=some (.lst ys):=λh=>by rw[bf λe=>by rw[e,X]at h;cases h];exact h
 have rY:∀{v:V}{f:Frac},hr K H v f->hr K (del H p) v f:=λ⟨⟨t,e,h⟩,xD⟩=>{{t,e,vg h},xD};have zf:pI K (del H p) (.ref y) (eG c):={y,rs,rfl,ls l9,nU.imp λv r zz=>by let(b,ys,e,ae,ag):=zz;exact {b,ys,e,ls ae,ag.imp λu q zz=>by let(t,e,h):=zz;calc {t,e,vg h}}};have nX:pA K ad (del H p) a Rl an U nF ix xs c:={by rw[bf Rm];calc C.ins,ls C.names,ls C.worths,C.worth.imp λv f h=>rY h,ls C.steps,C.step.imp λv r zz=>by let(b,ys,e,ae,ag):=zz;exact {b,ys,e,ls ae,ag.imp λu q zz=>by let(t,kN,e,h,hf):=zz;calc {t,kN,e,vg h,rY hf}}};clear nU vg ls rY C;let(_,GD,e,GF,GG):=id zf;cases e;rfl';refine cO X Z.hc.walk (by simp) (by decide) ?_;generalize rZ:upd H p _=jR;rfl';have s1:aw (del H p) (del jR p):=by rw[<-rZ,cj];exact aw.refl _
 have jD:jR p=some (.ins ad.Walk ao [("rows",.ref y)]):=by rw[<-rZ];exact aO
 clear rZ;have GH:=s1.trans bo;have rI:GD.length=c.size:=by rw[GG.1];unfold eG;rw[WC,W0]
 refine er (K:=K) hj ((List.range c.size).map (aM c)) (by rw[WC,W0,WJ];lia) λQd hd=>?_;rfl';refine hd y GD jR (au.of (GH _ _ GF)) (by rw[rI,WC,W0]) (λj x z G dI aB hz cg q=>?_) λJ ai Gp GI s2 ag r2=>?_;have a':j<c.size:=by have:=(WH.mp aB).1;lia
 rw[WG,fv a']at hz;cases hz;let(b,ys,rfl,bD,Y):=GG.2 j x (rowOf c j) aB (by unfold eG;rw[WG,fv a'];rfl);have nY:=GH.trans cg;rfl';refine x1 (K:=K) (by decide) hj ((rowOf c j).map (·.2)) (by rw[WC,WJ];have:=ze dJ a';lia) λQf hf=>?_;rfl';refine hf b ys ((rowOf c j).map λp=>(V.int (p.1:Int),V.int p.2)) G (au.of (nY _ _ bD)) (by rw[WC];calc Y.1) (nN (Y.imp λu q h=>hv _ _ _ _ nY h)) (λm iB z G2 Rn L hz u0 eB=>?_) λRo bU QJ kR s3 bR r3=>?_;rw[WG]at L hz;cases hm:(rowOf c j)[m]? with
 |none=>rw[hm]at L;cases L
 |some pp=>rw[hm]at L hz;cases L;cases hz;rfl';exact eB _ G2 (aw.refl _) rfl
 have r3:=ew (f:=V.int) r3;subst r3;refine{Ro,_,rfl,au.of bR,q _ bU s3 ?_};rw[<-nI];rfl;have r2:=ew (f:=V.int) r2;subst r2;have bn:=s2 _ _ jD;refine cO bn Z.hc.walk (by simp) (by show 1<1000;decide) ?_;rfl';have Rp:J≠p:=λe=>by rw[e,jD]at GI;cases GI
 generalize vh:upd ai p _=jU;have s3:aw (del H p) (del jU p):=by rw[<-vh,cj];exact s1.trans (c2 s2)
 have lM:jU p=some (.ins ad.Walk ao [("rows",.ref y),("totals",.ref J)]):=by rw[<-vh];exact aO
 have t3:del jU p J=some (.lst (((List.range c.size).map (aM c)).map V.int)):=by rw[<-vh,cj,bf Rp];exact ag
 clear vh;have zg:=s3.trans bo;refine er (K:=K) (R:=λ_ v b=>v=V.aG b) (λ_ _ _ _ _ h=>h) ((List.range c.size).map (isEnd c)) (by rw[WC,W0,WJ];lia) λQd hd=>?_;rfl';refine pB Z.hc (zg _ _ nX.ins) ?_;have Rq:xs.length=c.size:=by rw[nX.step.1,WC];rfl
 refine hd nF xs jU (au.of (zg _ _ nX.steps)) (by rw[Rq,WC,W0]) (λj x z G dI aB hz cg q=>?_) λM dj zh GJ s4 bP r4=>?_;have a':j<c.size:=by have:=(WH.mp aB).1;lia
 rw[WG,fv a']at hz;cases hz;let(GK,sk,b,ys,rfl,bD,Y):=zd nX a';rw[aB]at sk;cases sk;rfl';refine cw (au.of (cg _ _ (zg _ _ bD))) ?_;rfl';refine q _ G (aw.refl _) ?_;show V.aG _=V.aG _;congr 1;rw[Y.1];unfold isEnd;rw[Xu,decide_eq_true_eq,List.isEmpty_iff];exact{λe=>Ye.mp (by nofun),λe=>by rw[e];rfl};have r4:=ew (f:=V.aG) r4;subst r4;have i_:=s4 _ _ lM;refine cO i_ Z.hc.walk (by simp) (by show 2<1000;decide) ?_;rfl';have Rr:M≠p:=λe=>by rw[e,lM]at GJ;cases GJ
 generalize vi:upd dj p _=sl;have GL:aw (del jU p) (del sl p):=by rw[<-vi,cj];exact c2 s4
 have l1:sl p=some (.ins ad.Walk ao [("rows",.ref y),("totals",.ref J),("ends",.ref M)]):=by rw[<-vi];exact aO
 have FE:=GL _ _ t3;have nH:del sl p M=some (.lst (((List.range c.size).map (isEnd c)).map V.aG)):=by rw[<-vi,cj,bf Rr];exact bP
 clear vi;have s5:=s3.trans GL;have Rs:=s5.trans bo;refine uP Z.hc (Rs _ _ nX.ins) ?_;refine cO l1 Z.hc.walk (by simp) (by show 3<1000;decide) ?_;generalize zi:upd sl p _=GN;rfl';have GO:aw (del sl p) (del GN p):=by rw[<-zi,cj];exact aw.refl _
 have nJ:GN p=some (.ins ad.Walk ao [("rows",.ref y),("totals",.ref J),("ends",.ref M),("worths",.ref U)]):=by rw[<-zi];exact aO
 clear zi;have c1:=s5.trans GO;refine{_,c,rfl,c8 (c8 hv) _ _ _ _ (c1.trans bo) zf,dJ,λVz gp dG aN=>?_};let(kY,Rt,rfl,zj,Ru):=id aN;have nZ:=dG _ _ nJ;have Rv:kY≠p:=λe=>by rw[e,nZ]at zj;cases zj
 have Rw:cv je (del gp p) (.ref kY) (gY c):={kY,Rt,rfl,by rw[bf Rv];calc zj,Ru.imp λv l zz=>by let(b,e,h):=zz;exact {b,e,by rw[bf λz=>by rw[z,nZ]at h;cases h];calc h}};rfl';refine cO nZ Z.hc.walk (by simp) (by show 4<1000;decide) ?_;generalize zk:upd gp p _=GP;rfl';have zl:aw (del gp p) (del GP p):=by rw[<-zk,cj];exact aw.refl _
 have GQ:GP p=some (.ins ad.Walk ao [("rows",.ref y),("totals",.ref J),("ends",.ref M),("worths",.ref U),("ways",.ref kY)]):=by rw[<-zk];exact aO
 clear zk;have GR:=c8 l5 _ _ _ _ zl Rw;have iq:=(c1.trans (c2 dG)).trans zl;have GS:=(GO.trans (c2 dG)).trans zl;refine fld GQ Z.hc.walk (by simp) rfl ?_;refine{_,c,rfl,c8 l5 _ _ _ _ bo GR,dJ,λGv lI gQ ve=>?_};let(s,Rx,rfl,N,Ry):=id ve;have vj:=gQ _ _ GQ;have Rz:∀{b d:Addr}{fs:List (Str×V)}{x:V}{RA:List (Str×V)},lI b=some (.ins ad.StateClass d (("states",x)::RA))->b≠p:=λh e=>by
  rw[e,vj]at h;injection h with h
  injection h with _ _ h;injection h with h;injection h with h;exact absurd h (by decide)
 have RB:cv (l4 ad) (del lI p) (.ref s) (l6 c):={s,Rx,rfl,by rw[bf λe=>by rw[e,vj]at N;cases N];calc N,Ry.imp λv q zz=>by let(b,d,l,e,ae,ag):=zz;exact {b,d,l,e,by rw[bf (Rz (fs:=[]) ae)];calc ae,by rw[bf λz=>by rw[z,vj]at ag;cases ag];calc ag}};rfl';refine cO vj Z.hc.walk (by simp) (by show 5<1000;decide) ?_;generalize O:upd lI p _=zm;rfl';have GU:aw (del lI p) (del zm p):=by rw[<-O,cj];exact aw.refl _
 have GV:zm p=some (.ins ad.Walk ao [("rows",.ref y),("totals",.ref J),("ends",.ref M),("worths",.ref U),("ways",.ref kY),("classes",.ref s)]):=by rw[<-O];exact aO
 clear O;have GW:=c8 pH _ _ _ _ GU RB;have A:=(c2 (D:=p) gQ).trans GU;have xl:=iq.trans A;refine fld GV Z.hc.walk (by simp) rfl ?_;refine cw (au.of ((xl.trans bo) _ _ GF)) ?_;rw[rI];refine{_,c,rfl,c8 pH _ _ _ _ bo GW,dJ,λVA RC xm RD=>?_};let(w,rfl,P):=RD;have GX:=xm _ _ GV;have RE:w≠p:=λe=>by rw[e,GX]at P;cases P
 rfl';refine cO GX Z.hc.walk (by simp) (by show 6<1000;decide) ?_;generalize B:upd RC p _=sm;rfl';have g:aw (del zm p) (del sm p):=by rw[<-B,cj];exact c2 xm
 have GY:sm p=some (.ins ad.Walk ao [("rows",.ref y),("totals",.ref J),("ends",.ref M),("worths",.ref U),("ways",.ref kY),("classes",.ref s),("closed",.ref w)]):=by rw[<-B];exact aO
 have RF:del sm p w=some (.lst ((kS c).map V.aG)):=by rw[<-B,cj,bf RE];exact P
 clear B;have u2:=xl.trans g;have ne:∀{b:Addr}{o:bH}{G:am},del G p b=some o->b≠p:=λh e=>by rw[e,fG]at h;cases h
 refine λcB zo=>?_;have F:cB≠p:=λe=>by rw[e,GY]at zo;cases zo
 refine cO (p:=p) (by rw[aK (XE F)];calc GY) Z.hc.walk (by simp) (by show 7<1000;decide) ?_;rfl';refine λbX I=>?_;have S:bX≠p:=λe=>by rw[e,aO]at I;cases I
 have GZ:bX≠cB:=λe=>by rw[e,aK F,aO]at I;cases I
 refine cO (p:=p) (by rw[aK (XE S)];calc aO) Z.hc.walk (by simp) (by show 8<1000;decide) ?_;rfl';refine cO (p:=p) aO Z.hc.walk (by simp) (by show 9<1000;decide) ?_;rfl';refine λW i=>?_;have T:W≠p:=λe=>by rw[e,aO]at i;cases i
 rw[aK T,aK T]at i;have G0:W≠bX:=λe=>by rw[e,aO]at i;cases i
 rw[aK G0,aK T]at i;have zp:W≠cB:=λe=>by rw[e,aO]at i;cases i
 rw[aK zp]at i;rw[aK S,aK GZ]at I;refine cO (p:=p) (by rw[aK (XE T)];calc aO) Z.hc.walk (by simp) (by show 10<1000;decide) ?_;generalize h3:upd (upd _ W _) p _=G;have RG:G p=some (.ins ad.Walk ao (nM ⟨p,ao,y,J,M,U,kY,s,w,cB,bX,W⟩ .bb)):=by rw[<-h3];exact aO
 have g1:G cB=some (.b7 []):=by rw[<-h3,aK F,aK (XE zp),aK F,aK F,aK (XE GZ),aK F,aO]
 have g2:G bX=some (.d6 []):=by rw[<-h3,aK S,aK (XE G0),aK S,aK S,aO]
 have g3:G W=some (.b7 []):=by rw[<-h3,aK T,aO]
 have go:∀b,b≠p->b≠cB->b≠bX->b≠W->G b=sm b:=λb ae ag bR bP=>by rw[<-h3,aK ae,aK bP,aK ae,aK ae,aK bR,aK ae,aK ag]
 clear h3;have pN:aw (del sm p) (cut ⟨p,ao,y,J,M,U,kY,s,w,cB,bX,W⟩ G):=λb o e=>by
  have kF:=ne e;rw[bf kF]at e;have cp:b≠cB:=λz=>by rw[z,zo]at e;cases e
  have b4:b≠bX:=λz=>by rw[z,I]at e;cases e
  have ih:b≠W:=λz=>by rw[z,i]at e;cases e
  exact jS (by rw[go b kF cp b4 ih];calc e) ⟨kF,cp,b4,ih⟩
 have vk:=u2.trans pN;refine k ⟨p,ao,y,J,M,U,kY,s,w,cB,bX,W⟩ G rfl vk {{.bb,RG,.inl rfl},{c8 (c8 hv) _ _ _ _ vk zf,?_,?_,{U,ix,rfl,vk _ _ nX.worths,nX.worth.imp λv f h=>ht _ _ _ _ vk h},?_,?_,{w,rfl,pN _ _ RF}},
  {[],g1,{Yd,λq a9=>by cases a9},λj v eu=>by cases eu},{[],g2,Xk _,λj v eu=>by cases eu},{[],g3,{Yd,λq a9=>by cases a9},λj v l eu=>by cases eu},XE zp}
 calc{J,rfl,pN _ _ (g _ _ (A _ _ (GS _ _ FE)))};calc{M,rfl,pN _ _ (g _ _ (A _ _ (GS _ _ nH)))};calc c8 l5 _ _ _ _ ((A.trans g).trans pN) GR;calc c8 pH _ _ _ _ (g.trans pN) GW
def RH:bt:=λK ad vs H Q _=>∃v c,vs=[v]/\hZ K ad H v c/\aY c/\∀W ai,aw H (cut W ai)->bQ K ad W 0 ai c->Q (.ref W.a) ai
def RI:bz Z Z.Ep 7 RH:=by
 refine d0 ["chain","number"] Z.Ep (λt nd R u=>(az (aT (MU (Rj Z) (t.mono (by decide)) rfl dt (aD (ah 0) (av (dz rfl nd (m2 rfl Z.nt (av (cm K Z.cf (aC K (ah 0))))) (cM (own:=[("number",1)]) (by kernel_rfl)) (λ_ _ _ _ _=>b3 1 nd) (λ_ _ _ _ _=>dh) λ_ _ _ _ _=>ck (a5 (Rc Z) t (aD (ah 0) (av (ah 1))))))))))) λH vs Q E h=>zi0 λ_ _=>?_;let(v,c,rfl,d,l,k):=h;let(a,ao,an,S,A,T,xs,rfl,C):=id d;rfl';have B:c.size<=24:=l.bj;rfl';have g:(eG c).length=c.size:=by unfold eG;rw[WC,W0]
 refine C' (c8 (hv (K:=K))) (eG c) (by rw[WJ];lia) λU F=>?_;rfl';refine lZ Z.hc C.ins (cw (au.of C.names) ?_);have m:(c.states.map λs=>V.str (a4 s.name)).length=(eG c).length:=by erw[g,WC];rfl
 rw[m];refine F H (λj z G X hz I q=>?_) λD ai us Y w ag J=>?_;have y:j<c.size:=by have:=(WH.mp hz).1;nofun
 unfold eG at hz;erw[WG,fv y]at hz;cases hz;rfl';calc{_,c,j,rfl,gz _ _ _ _ I d,l,y,q};rfl';intro x f nx n L;have i:aw ai (upd (upd ai f (.own x)) x (.ins ad.Walk f [])):=hW (fi n) nx;refine{x,f,_,_,c,rfl,aO,gz _ _ _ _ (w.trans i) d,l,{D,us,rfl,i _ _ ag,J.imp λv r h=>c8 hv _ _ _ _ i h},λW M N O P=>{rfl,?_}};rw[<-N];refine k W M (λb o e=>O _ _ ?_) P;have p:=w _ _ e;rw[bf λz=>by rw[z,nx]at p;cases p];calc i _ _ p
def l'(d:aY c)(f:j<c.size):Qx c j (c' c j):=by
 have h:=cJ d;let(g,n,o,x,p,l,r):=y4 d (ic c j) (λu s=>((cQ h).mp s).1) (jm h j) (pz:=λi=>if i=j then 1 else 0) (λq _=>by split<;>decide);have v:=sP h f (x:=x) (by
  rw[l j f λz=>((cQ h).mp z).2.1 rfl];rw[WO rfl,Rat.intCast_one]) (λk ak b=>by
   rw[l k ak λz=>b ((cQ h).mp z).2.2];rw[WM (λe=>b (by rw[e];calc .here j)),Xo]) λi af a b=>by
   have:=r i ((cQ h).mpr ⟨af,a,b⟩);rw[this];rw[WM a,Xo];grind
 refine{g,n,YI o (Xi (by decide) (by decide)),λi t m=>?_};have af:i<c.size:=by have:=(WH.mp m).1;rwa[<-g]
 erw[p i t m,v i af];rfl
def zq(h:bQ K ad W N H c)(r:fI ad H v s):fI ad (cut W H) v s:=by let(a,ao,l,rfl,ae,ag):=r;let(g,b,_):=h.ins;let(k1,d,_):=h.come;let(k2,f,_):=h.steps;let(k3,i,_):=h.steady;refine{a,ao,l,rfl,jS ae {λe=>?_,λe=>?_,λe=>?_,λe=>?_},jS ag {λe=>?_,λe=>?_,λe=>?_,λe=>?_}};erw[e,b]at ae;injection ae with ae;injection ae with _ _ ae;injection ae with ae;nofun;nofun;nofun;nofun;nofun;nofun;nofun;nofun
def RJ(h:bQ K ad W N H c)(ak:H W.come=some (.b7 kvs))(t:j<c.size)(r:fI ad (cut W H) v (c' c j)):bQ K ad W N (upd H W.come (.b7 (putK kvs (Sum.inl j) v))) c:=by
 let(g,d,f):=h.ins;let(k1,k,l,s):=h.come;let(k2,m,n,a):=h.steps;let(k3,w,q,b):=h.steady;rw[k]at ak;cases ak;have e:=l7 (H:=H) (p:=W.come) (o:=.b7 (putK kvs (Sum.inl j) v)) (.inr (.inl rfl));have x:W.a≠W.come:=λz=>by rw[z,k]at d;cases d
 have y:W.steps≠W.come:=λz=>by rw[z,k]at m;cases m
 refine{{g,by rwa[aK x],by rwa[e]},by rw[e];calc h.st,{_,aO,vc l t,λi u A=>?_},{k2,by rwa[aK y],n,by rwa[e]},{k3,by rwa[aK (XE h.ne)],q,by rwa[e]},h.ne};rw[jA]at A;grind
def RK:bt:=λK ad vs H Q _=>∃W N c,∃j:Nat,vs=[.ref W.a,.int j]/\bQ K ad W N H c/\aY c/\j<c.size/\∀v ai,aw H ai->fI ad ai v (c' c j)->Q v ai
def RL:bz Z Z.DB 4 RK:=by
 refine bX ["walk","goal","prizes","unknowns","number","ways"] Z.DB λH vs Q E T nd A a h=>{_,(zx0 (aV 2 nd (bl dH (bN (av aJ)) (cm K Z.cf (aC K (ah 0))))) (zx0 (kh aJ (kg (ah 2) (ah 1) set_list)) (zx0 (kr (i:=3) rfl nd rfl rfl (ks rfl rfl rfl rfl) (ky rfl Z.kL (av (aC K (ah 0)))) (cM (own:=[("number",4),("ways",5)]) (by kernel_rfl)) (λ_ _ _ _ _=>ee (n:=2) rfl rfl (b0 (b3 4 nd) (b0 (b3 5 nd) ec))) (λ_ _ _ _ _=>(oY (dP.pt (i1 (b9 (aQ K (ah 5) (ah 1))) (i0 (b1 (k_ne rfl a) (ah 4) (ah 1) (bZ _))))))) λ_ _ _ _ _=>ck (ah 4)) (az (aT (a5 (y5 Z) T (aD (ah 0) (aD (ah 3) (av (ah 2)))))))))),zi0 λ_ _=>?_};clear nd A a;let(W,N,c,j,rfl,w,B,d,k):=h;rfl';have st:=w.ej;have O:=cJ B;have U:c.size<=24:=B.bj;let(pL,fT,C,I,_):=l8 st d;let(X,lw,l,J,_):=pK st d;rfl';refine{by rw[WJ];decide,λnQ h1 iH y Y=>?_};refine b_ Z.hc (w.mono y) (by simp) (λ_=>rfl) (cw (au.of (y _ _ C)) ?_);rw[I];refine{_,Y,by nofun,by rw[WJ];lia,λF H1 P s1 ae=>?_};rfl';rw[XM,sb]at ae;rfl';refine iA ae (by simp;calc d) ?_;rfl';have R:=set_range (λ_=>0) (λi=>if i=j then 1 else 0) d λi af=>by by_cases e:i=j;rw[WO e,WO e,WO rfl];rw[WM e,WM e]
 erw[Z4]at R;rw[R];have eI:H F=none:=by
  cases e:H F with
  |none=>rfl
  |some u=>rw[y _ _ e]at P;cases P
 have o:aw H (upd H1 F (.lst (((List.range c.size).map λi=>if i=j then(1:Int)else 0).map V.int))):=hW (y.trans s1) eI;have p:upd H1 F (.lst (((List.range c.size).map λi=>if i=j then(1:Int)else 0).map V.int)) F=_:=aO;generalize upd H1 F (.lst (((List.range c.size).map λi=>if i=j then(1:Int)else 0).map V.int))=G2 at o p;refine yN (by decide) va c.size (λm=>reaches c m j&&m !=j) id (by rw[WJ];lia) λd3 a9=>?_;rfl';refine b_ Z.hc (w.mono o) (by simp) (λ_=>rfl) ?_;refine a9 W.ways X G2 (au.of (o _ _ l)) J (λm x aj pE z s q=>?_) (λm x G dI z hf s q=>?_) λD bU us fH S bR r=>?_;have hm:m<c.size:=by have:=(WH.mp z).1;nofun
 let(RM,RN,b,_,L,M):=pK st hm;rw[l]at b;cases b;rw[L]at z;cases z;rfl';refine aZ (au.of (s _ _ (o _ _ M))) (u4 d) ?_;rfl';revert q;cases reaches c m j with
 |false=>intro q;calc q
 |true=>
  intro q;have e:(!decide (m=(j:Int)))=(m !=j):=by lia
  rw[<-e]at q;exact q
 rfl';calc q _ G (aw.refl _) rfl;rfl';rw[Y_]at r;rfl';have r:=ew r;have RO:(List.range c.size).filter (λm=>reaches c m j&&m !=j)=b5 c j:=by unfold b5 numbers;exact aaN λm _=>Bool.and_comm ..
 rw[RO]at r;subst r;have t:=o.trans S;rfl';exact{W,N,c,_,b5 c j,_,λi=>if i=j then 1 else 0,rfl,w.mono t,B,⟨D,rfl,bR⟩,ic c j,λu A=>((cQ O).mp A).1,jm O j,{F,rfl,S _ _ p},λq _=>by show(if q=j then(1:Int)else 0).natAbs<_;split<;>decide,λv dj s4 bP=>k v dj (t.trans s4) bP}
def RP:bt:=λK ad vs H Q _=>∃W N c,∃j:Nat,vs=[.ref W.a,.int j]/\bQ K ad W N H c/\aY c/\j<c.size/\∀v ai,Kept K ad W N c H ai->fI ad (cut W ai) v (c' c j)->Q v ai
def vl:bz Z Z.DA 5 RP:=by
 refine d0 ["walk","goal"] Z.DA (λq nd l m=>(ax (bB (iZ (m_ l (ah 1) (aC K (ah 0))) rfl) (az (m' l (aC K (ah 0)) (ah 1) (a5 (RL Z) q (aD (ah 0) (av (ah 1)))) rfl)) bI) (az (aT (ku l (aC K (ah 0)) (ah 1) λ_ _=>rfl))))) λH vs Q E h=>?_;let(W,N,c,j,rfl,d,n,o,k):=h;have r:c.size<=24:=n.bj;show eL ?uQ ?nG ?pC ?rR ?rS;generalize s: ?nG=B;have a:∀ai,Kept K ad W N c H ai->(∀kvs,ai W.come=some (.b7 kvs)->∃v,cr kvs (Sum.inl j)=some v)->B {nx:=λ_ aj=>Q .bb aj,rt:=Q} [some (V.ref W.a),some (V.int j)] ai:=by intro ai ak g;simp only[<-s];rfl';let(kvs,ae,ag,p):=ak.at_.come;let(v,g):=g kvs ae;refine b_ Z.hc ak.at_ (by simp) (λ_=>rfl) {W.come,rfl,v,?_,k v ai ak (p j v g)};rw[<-g];exact dA.k (k:=Sum.inl j) ae
 rfl';let(kvs,ae,ag,p):=d.come;refine b_ Z.hc d (by simp) (λ_=>rfl) {W.come,rfl,_,dA.k (k:=Sum.inl j) ae,?_};cases e:cr kvs (Sum.inl j)with|some v=>refine a H (Kept.refl d) λf h'=>?_;rw[ae]at h';cases h';calc⟨v,e⟩|none=>refine{W,N,c,j,rfl,d,n,o,λv ai i t=>?_};have b:=d.mono i;refine b_ Z.hc b (by simp) (λ_=>rfl) ?_;have u:=u3 ag;refine{W.come,rfl,_,hS.k (k:=Sum.inl j) (i _ _ ae) (by rw[WJ];lia),a _ {?_,RJ b (i _ _ ae) o (zq b t)} λf h'=>?_};rw[l7 (.inr (.inl rfl))];calc eH i;rw[aO]at h';cases h';exact{v,by rw[jA,WO rfl]}
def pO(hc:ef K ad)(h:H p=some (.ins ad.Sums ao [("tops",x),("bottom",y)]))(q:Q x H):ed K (Str.ofString "tops") p H Q:=fld h hc.sums (by simp) rfl q
def pP(hc:ef K ad)(h:H p=some (.ins ad.Sums ao [("tops",x),("bottom",y)]))(q:Q y H):ed K (Str.ofString "bottom") p H Q:=fld h hc.sums (by simp) rfl q
def pQ(a:aY c)(af:i<c.size)(b:j<c.size):∃t,(c' c j).1[i]? =some t/\t=((c' c j).2)*aI c i j/\t.natAbs<2^7400:=by
 have co:=l' a b;obtain⟨t,d⟩:∃t,(c' c j).1[i]? =some t:={_,WK (by rwa[co.len])};have e:=co.is i t d;refine{t,d,e,?_};have ae:=sQ (cJ a) (j:=j) af;have ag:=qk (cJ a) af b;have f:=W7.mpr co.pos;have g:0<=t:=by
  have:0<=(t:Rat):=by rw[e];exact Xf (XJ f) ae
  exact Yt.mp this
 have h:t<=(c' c j).2:=by
  have:t<=((c' c j).2:Rat):=by have:=Xf (XJ f) (show 0<=1-aI c i j by grind);grind
  exact YT.mp this
 have:=co.small;lia
def G1(a:aU f){t:Int}{b:Nat}(c:0<b)(h:val f=(t:Rat)/((b:Int):Rat)):frac t b=f:=k9 (h8 _ _) a (by rw[hC _ (Xr c),h])
def pR(a:aU f){t b:Int}(c:0<b)(h:val f=(t:Rat)/(b:Rat)):low t b=(f.num,(f.den:Int)):=by
 have e:((b.toNat:Nat):Int)=b:=by lia
 have ae:=rX t b.toNat (by lia);rw[e]at ae;rw[ae,G1 a (t:=t) (b:=b.toNat) (by lia) (by nofun)]
def G3:bt:=λK ad vs H Q _=>∃W N c,∃i j:Nat,vs=[.ref W.a,.int i,.int j]/\bQ K ad W N H c/\aY c/\i<c.size/\j<c.size/\∀v ai,Kept K ad W N c H ai->eT K (cut W ai) v (Vaprbq.come c i j)->Q v ai
def n0(h:bQ K ad W N H c)(r:gu K H v q):gu K (cut W H) v q:=by
 let(t,rfl,bW):=r;let(g,a,_):=h.ins;let(k1,b,_):=h.come;let(k2,d,_):=h.steps;let(k3,f,_):=h.steady;refine{t,rfl,?_};rcases bW with(bW|⟨o,bW⟩)|bW;refine .inl (.inl (jS bW {λe=>?_,λe=>?_,λe=>?_,λe=>?_}));nofun;nofun;nofun;nofun;refine .inl (.inr {o,jS bW {λe=>?_,λe=>?_,λe=>?_,λe=>?_}});nofun;nofun;nofun;nofun;calc .inr bW
def kZ(h:z.natAbs<2^7400):Small z:={YI h (Xi (by decide) (by decide))}
def zr:bz Z Z.Dv 6 G3:=by refine d0 ["walk","origin","goal","sums"] Z.Dv (λg nd u m=>(zx0 (aV 3 nd (a5 (vl Z) g (aD (ah 0) (av (ah 2))))) (az (aT (a5 (jJ Z) g (aD (aQ K (aC K (ah 3)) (ah 1)) (av (aC K (ah 3))))))))) λH vs Q E h=>zi0 λ_ _=>?_;let(W,N,c,i,j,rfl,o,b,af,d,k):=h;rfl';have co:=l' b d;let(t,e,f,p):=pQ b af d;rfl';refine{W,N,c,j,rfl,o,b,d,λv H1 k1 q=>?_};let(a,ao,l,rfl,ae,ag):=q;rfl';have ae:=c3 _ _ ae;have ag:=c3 _ _ ag;refine pO Z.hc ae (aZ (au.of ag) (v:=.int t) (by nofun) ?_);refine pP Z.hc ae ?_;refine{_,_,rfl,co.pos,kZ co.small,λr ai s n=>?_};have k2:=k1.then s;refine k r ai k2 (n0 k2.at_ ?_);rw[pR (fU (cJ b) i j) co.pos]at n;nofun;have w:=W7.mpr co.pos;show aI c i j=_;grind
def pS(c:Chain)(j:Nat):Rat:=aq (List.range c.size) λk=>ar c j k*aI c k j
def ma(c:Chain)(j:Nat):Int:=bV ((rowOf c j).map λp=>p.2*((c' c j).1[p.1]?.getD 0))
def G4(b:aY c)(af:i<c.size)(a:p∈rowOf c i):p.1<c.size/\0<p.2/\p.2<=aM c i/\Small p.2:=by have R:=du b af;have ae:=R.pos p a;have ag:=u7 R p.1;rw[j6 R.nodup a]at ag;have d:=R.small;refine{R.lt p a,ae,ag,{?_}};grind
def mb(a:aY c)(af:i<c.size):(aM c i).natAbs<2^273/\Small (aM c i):=by
 have ae:=e0 a af;have:(aM c i).natAbs<2^273:=by omega
 calc{this,{YI this (Xi (by decide) (by decide))}}
def G5(a:aY c)(d:j<c.size):(ma c j)=(aM c j)*((c' c j).2)*pS c j/\0<=ma c j:=by
 have R:=du a d;have g:=cJ a;constructor;unfold ma pS;erw[j5,gH];have h:a3 (rowOf c j) (λp=>((p.2*((c' c j).1[p.1]?.getD 0):Int)))=a3 (rowOf c j) (λp=>p.2*(((c' c j).2)*aI c p.1 j)):=ot λp b=>by let(t,f,e,_):=pQ a (R.lt p b) d;nofun
 rw[h,mQ (λq=>((c' c j).2)*aI c q j) _ R.lt,<-cn];refine br λq _=>?_;rw[R.is q];show(aM c j)*ar c j q*_=_;grind;refine j' _ λx i=>?_;let(p,b,e):=WT.mp i;rw[<-e];let(t,f,k,_):=pQ a (R.lt p b) d;rw[f];have l:=W7.mpr (l' a d).pos;have m:0<=t:=by
  have:0<=(t:Rat):=by rw[k];exact Xf (XJ l) (sQ g (R.lt p b))
  exact Yt.mp this
 calc YH (Zp (R.pos p b)) m
def RQ:bt:=λK ad vs H Q _=>∃W N c,∃j:Nat,vs=[.ref W.a,.int j]/\bQ K ad W N H c/\aY c/\j<c.size/\∀ai,Kept K ad W N c H ai->Q (.int (ma c j)) ai
def G6:bz Z Z.Dz 6 RQ:=by
 refine d0 ["walk","goal","tops","number","share"] Z.Dz (λA nd U x=>(zx0 (fg (i:=2) nd rfl (Or.inr rfl) (aC K (a5 (vl Z) A (aD (ah 0) (av (ah 1)))))) (az (aT (gm (nq rfl rfl) (by rfl) Z.nu PyProof.Rows.Boot.«sum» (av (dz rfl nd (cH K (aQ K (aC K (ah 0)) (ah 1))) (cM (own:=[("number",3),("share",4)]) (by kernel_rfl)) (λ_ _ _ _ _=>ee (K:=K) (n:=2) rfl rfl (b0 (b3 3 nd) (b0 (b3 4 nd) ec))) (λ_ _ _ _ _=>dh) λ_ _ _ _ _=>ck (bl dH (ah 4) (aQ K (ah 2) (ah 3)))))))))) λH vs Q E h=>zi0 λ_ _=>?_;let(W,N,c,j,rfl,B,e,d,k):=h;rfl';have co:=l' e d;have X:=ze e d;rfl';refine{W,N,c,j,rfl,B,e,d,λv H1 k1 C=>?_};let(a,ao,l,rfl,ae,ag):=C;have ae:=c3 _ _ ae;have ag:=c3 _ _ ag;have st:=k1.at_.ej;let(Y,fT,o,D,q,F,rs,rfl,r,g):=l8 st d;rfl';refine pO Z.hc ae ?_;rfl';refine x1 (K:=K) (by decide) hj ((rowOf c j).map λp=>p.2*((c' c j).1[p.1]?.getD 0)) (by erw[WC,WJ];lia) λQf G=>?_;rfl';refine b_ Z.hc k1.at_ (by simp) (λ_=>rfl) (aZ (au.of o) q ?_);refine G F rs ((rowOf c j).map λp=>(V.int (p.1:Int),V.int p.2)) H1 (au.of r) (by rw[WC];calc g.1) (nN g) (λm iB z G2 Rn b hz s I=>?_) λJ L M kR O P u=>?_;rw[WG]at b hz;cases w:(rowOf c j)[m]? with
 |none=>nofun
 |some p=>rw[w]at b hz;cases b;cases hz;let(R,b4,ih,S):=G4 e d (WS w);let(t,y,_,T):=pQ e R d;rfl';refine aZ (au.of (s _ _ ag)) (v:=.int t) (by rw[WG,y];rfl) {S.mul (kZ T),I _ G2 (aw.refl _) ?_};show V.int (p.2*t)=V.int (p.2*((c' c j).1[p.1]?.getD 0));rw[y];rfl
 have u:=ew (f:=V.int) u;subst u;refine{J,_,rfl,au.of P,?_};rw[<-nI];calc k L (k1.then O)
def G7(a:aY c)(b:j<c.size):Small (aM c j*(c' c j).2):=by
 refine{?_};rw[XW];have ae:=(mb a b).1;have ag:=(l' a b).small;calc (aM c j).natAbs*(c' c j).2.natAbs<=2^273*2^7400:=X3 (Yg ae) (Yg ag)
  _=2^7673:=by rw[<-aax]
  _<2^8999:=Xi (by decide) (by decide)
def RR:bt:=λK ad vs H Q _=>∃W N c,∃j:Nat,vs=[.ref W.a,.int j]/\bQ K ad W N H c/\aY c/\j<c.size/\∀v ai,Kept K ad W N c H ai->eT K (cut W ai) v (Vaprbq.back c j)->Q v ai
def RS:bz Z Z.Dw 7 RR:=by
 refine d0 ["walk","goal"] Z.Dw (λf nd y g=>(ax (bB (b9 (aQ K (aC K (ah 0)) (ah 1))) (az (aT (ja Z.hn rfl))) bI) (az (aT (a5 (jJ Z) f (aD (a5 (G6 Z) f (aD (ah 0) (av (ah 1)))) (av (bl dH (aQ K (aC K (ah 0)) (ah 1)) (aC K (a5 (vl Z) f (aD (ah 0) (av (ah 1))))))))))))) λH vs Q E h=>zi0 λ_ _=>?_;let(W,N,c,j,rfl,e,d,b,k):=h;rfl';have co:=l' d b;have i:=cJ d;have st:=e.ej;rfl';refine b_ Z.hc e (by simp) (λ_=>rfl) (aZ (au.of (yV st)) (yW b) ?_);symm;cases m:isEnd c j with|true=>rw[WO rfl];refine k _ H (Kept.refl e) {_,rfl,?_};unfold Vaprbq.back;rw[WO m];calc Z.hn.2 _|false=>
  refine{W,N,c,j,rfl,e,d,b,λH1 k1=>?_};refine b_ Z.hc k1.at_ (by simp) (λ_=>rfl) (aZ (au.of (kU k1.at_.ej)) (kV b) ?_);refine{W,N,c,j,rfl,k1.at_,d,b,λv ai k2 q=>?_};let(a,ao,l,rfl,ae,ag):=q;refine pP Z.hc (c3 _ _ ae) {(mb d b).2.mul (kZ co.small),?_};have n:=(e0 d b).1;have o:=aa2 n co.pos;refine{_,_,rfl,o,G7 d b,λr s t p=>?_};have k3:=(k1.trans k2).then t;refine k r s k3 (n0 k3.at_ ?_);rw[pR (n_ i j) o]at p;nofun;have u:val (Vaprbq.back c j)=pS c j:=lm i (by rw[m];decide);erw[(G5 d b).1,W6];have w:=W7.mpr co.pos;have x:=W7.mpr n;have z:=XR x w;grind
def RT:bt:=λK ad vs H Q _=>∃W N c,∃i j:Nat,∃b,vs=[.ref W.a,.int i,.int j]/\bQ K ad W N H c/\aY c/\i<c.size/\j<c.size/\(b=true↔fa c i j)/\Q (.aG b) H
def RU(h:ba c)(af:i<c.size)(a:j<c.size):(reaches c i j&&(Vaprbq.closed c (classOf c j)&& !isEnd c j))=true↔fa c i j:=by simp only[Xd,Xd,dC h af,oe h a,XB,<-Xj];calc Iff.rfl
def G8:bz Z Z.Dx 1 RT:=by
 refine d0 ["walk","origin","goal"] Z.Dx (λr nd s l=>(az (aT (AK (aQ K (aQ K (aC K (ah 0)) (ah 1)) (ah 2)) (AK (aQ K (aC K (ah 0)) (ah 2)) (tr (I3 (aQ K (aC K (ah 0)) (ah 2))))))))) λH vs Q E h=>zi0 λ_ _=>?_;let(W,N,c,i,j,b,rfl,a,m,af,d,n,k):=h;rfl';have o:=cJ m;have st:=a.ej;let(t,u,e,p,f,g):=pK st af;have q:b=(reaches c i j&&(Vaprbq.closed c (classOf c j)&& !isEnd c j)):=by rw[Xu,n,RU o af d]
 rw[q]at k;rfl';refine b_ Z.hc a (by simp) (λ_=>rfl) (aZ (au.of e) f (aZ (au.of g) (u4 d) ?_));rfl';revert k;cases reaches c i j with|false=>nofun|true=>
  intro k;rw[WO rfl];refine b_ Z.hc a (by simp) (λ_=>rfl) (aZ (au.of (F9 st)) (F_ d) ?_);rfl';revert k;cases Vaprbq.closed c (classOf c j)with|false=>nofun|true=>intro k;rw[WO rfl];refine b_ Z.hc a (by simp) (λ_=>rfl) (aZ (au.of (yV st)) (yW d) ?_);rfl';rwa[Zd]at k
def RV:bt:=λK ad vs H Q _=>∃W N c,∃i j:Nat,vs=[.ref W.a,.int i,.int j]/\bQ K ad W N H c/\aY c/\i<c.size/\j<c.size/\¬fa c i j/\∀v ai f,Kept K ad W N c H ai->Vaprbq.visits c i j=some f->eT K (cut W ai) v f->Q v ai
def RW:bz Z Z.Dy 7 RV:=by
 refine d0 ["walk","origin","goal","sums","total"] Z.Dy (λm nd bg B=>(ax (bB (dP.pt (kf (b9 (aQ K (aC K (ah 0)) (ah 2))) (ke (jt (b9 (aQ K (aQ K (aC K (ah 0)) (ah 1)) (ah 2))))))) (az (aT (a5 (zr Z) m (aD (ah 0) (aD (ah 1) (av (ah 2))))))) bI) (zx0 (aV 3 nd (a5 (vl Z) m (aD (ah 0) (av (ah 2))))) (zx0 (aV 4 nd (aQ K (aC K (ah 0)) (ah 2))) (az (aT (a5 (jJ Z) m (aD (bl dH (ah 4) (aQ K (aC K (ah 3)) (ah 1))) (av (bl lF (bl dH (ah 4) (aC K (ah 3))) (a5 (G6 Z) m (aD (ah 0) (av (ah 2)))))))))))))) λH vs Q E h=>zi0 λ_ _=>?_;let(W,N,c,i,j,rfl,o,d,af,b,q,k):=h;rfl';have n:=cJ d;have st:=o.ej;have co:=l' d b;let(f,C,D,p,L):=sS n af b q;let(ix,lw,r,M,s,u):=pK st af;have g:aI c i j=val f->G3 K ad [.ref W.a,.int i,.int j] H Q ry:=by intro e;refine{W,N,c,i,j,rfl,o,d,af,b,λv ai k2 O=>k v ai f k2 C ?_};have:Vaprbq.come c i j=f:=k9 (fU n i j) D e;rw[<-this];exact O
 rfl';refine b_ Z.hc o (by simp) (λ_=>rfl) (aZ (au.of (yV st)) (yW b) ?_);rfl';cases F:isEnd c j with
 |true=>rw[WO rfl];refine g ?_;rw[p,n' F];grind
 |false=>
  rw[WM (by decide)];refine b_ Z.hc o (by simp) (λ_=>rfl) (aZ (au.of r) s (aZ (au.of u) (u4 b) ?_));rfl';cases m:reaches c i j with
  |false=>
   rw[WO rfl];refine g ?_;have:aI c i j=0:=fo n λw=>by rw[(dC n af).mpr w]at m;cases m
   rw[this];grind
  |true=>
   have x:=L ((dC n af).mp m);have R:bk c j=pS c j:=lm n (by nofun);rw[R]at x p;rw[WM (by decide)];rfl';refine{W,N,c,j,rfl,o,d,b,λv H1 k1 S=>?_};let(a,ao,l,rfl,ae,ag):=S;rfl';have ae:=c3 _ _ ae;have ag:=c3 _ _ ag;let(t,y,z,A):=pQ d af b;rfl';refine b_ Z.hc k1.at_ (by simp) (λ_=>rfl) (aZ (au.of (kU k1.at_.ej)) (kV b) ?_);rfl';refine pO Z.hc ae (aZ (au.of ag) (v:=.int t) (by nofun) {(mb d b).2.mul (kZ A),?_});refine pP Z.hc ae {(mb d b).2.mul (kZ co.small),?_};refine{W,N,c,j,rfl,k1.at_,d,b,λai k2=>?_};have G:=(e0 d b).1;let(T,b4):=G5 d b;have X:=XR (W7.mpr G) (W7.mpr co.pos);have I:((aM c j*(c' c j).2-ma c j:Int))=(aM c j)*((c' c j).2:Rat)*(1-pS c j):=by grind
   have hd:0<aM c j*(c' c j).2-ma c j:=by
    have:(0:Rat)<((aM c j*(c' c j).2-ma c j:Int):Rat):=by rw[I];exact XR X (by grind)
    exact W7.mp this
   have a8:0<aM c j*(c' c j).2:=aa2 G co.pos;refine{_,_,rfl,hd,(G7 d b).le (by lia),λY bU s3 J=>?_};have k3:=(k1.trans k2).then s3;refine k Y bU f k3 C (n0 k3.at_ ?_);rw[pR D hd]at J;nofun;rw[p,I,W6,z,<-Rat.mul_assoc];calc zq9 (by clear J;grind) (Rat.ne_of_gt X)
def RX:bt:=λK ad vs H Q _=>∃W N c,∃i:Nat,∃a g,vs=[.ref W.a,.int i,a]/\bQ K ad W N H c/\aY c/\i<c.size/\l3 H a g/\(∀x∈g,x<c.size)/\g.length<=24/\∀ai b,aw H ai->(b=true↔fM c g i)->Q (.aG b) ai
def RY(d:aY c)(g:List Nat):y7 c.size (halt g (ar c)) ((List.range c.size).map λm=>if g.contains m=true then []else rowOf c m):=by
 have get:∀{m:Nat}{r},((List.range c.size).map λm=>if g.contains m=true then []else rowOf c m)[m]? =some r->m<c.size/\r=if g.contains m=true then []else rowOf c m:=by grind
 refine{by grind,λm r h p a=>?_,λm r h j=>?_};let(b,rfl):=get h;split at a;nofun;calc(du d b).lt p a;let(b,rfl):=get h;rw[ll,tf (du d b) j,<-WX];nofun
theorem zt{α:Type}f:∀l:List α,(l.map f).any id=l.any f|[]=>rfl|x::r=>by rw[WU,Yx,zt f r];rfl
def G9:bz Z Z.DE 2 RX:=by
 refine bX ["walk","origin","goals","halted","found","number","ways","row","goal"] Z.DE λH vs Q E bF nd bg C h=>{_,(zx0 (kr (i:=3) rfl nd rfl rfl (ks rfl rfl rfl rfl) (ky rfl Z.kL (av (aC K (ah 0)))) (cM (own:=[("number",5),("row",7)]) (by kernel_rfl)) (λ_ _ _ _ _=>ee (K:=K) (n:=2) rfl rfl (b0 (b3 5 nd) (b0 (b3 7 nd) ec))) (λ_ _ _ _ _=>dh) λ_ _ _ _ _=>ck (ts (b1 (k_in (K:=K) rfl) (ah 5) (ah 2) rfl) (bN i4) (ah 7))) (zx0 (aV 4 nd (a5 (Gi Z) bF (aD (ah 3) (av (ah 1))))) (zx0 (dS Xe rfl (ky rfl Z.kL (av (aC K (ah 0)))) (ee (K:=K) (n:=2) rfl rfl (b0 (cG 5 nd) (b0 (wP (i:=6) nd rfl (Or.inr rfl)) ec))) (az (bB (dP.pt (i1 (b9 (aQ K (ah 4) (ah 5))) (i0 (jt (b9 (gm (CW (K:=K) rfl rfl) (by rfl) Z.ES PyProof.Rows.Boot.«any» (av (dz rfl nd (cH K (ah 2)) (cM (own:=[("goal",8)]) (by kernel_rfl)) (λ_ _ _ _ _=>b3 8 nd) (λ_ _ _ _ _=>dh) λ_ _ _ _ _=>ck (aQ K (ah 6) (ah 8)))))))))) (az (aT js)) bI))) (az (aT js))))),zi0 λ_ _=>?_};clear nd bg C;let(W,N,c,i,G_,g,rfl,L,M,af,z0,O,VB,k):=h;let(G',rfl,dW):=z0;rfl';have P:=cJ M;have st:=L.ej;have S:c.size<=24:=M.bj;let(pL,fT,F,T,_):=l8 st af;let(e4,VC,e,r,U):=id st.rows;cases e;rw[F]at r;cases r;let(ix,lw,A,X,_):=pK st af;rfl';refine yN (K:=K) (by decide) (c8 (hv (K:=K))) c.size (λ_=>true) (λm=>if g.contains m=true then []else rowOf c m) (by rw[WJ];lia) λd3 I=>?_;rfl';refine b_ Z.hc L (by simp) (λ_=>rfl) ?_;refine I W.rows pL H (au.of F) T (λm x aj pE a s q=>q) (λm x G dI a Y s q=>?_) λD H1 us fH s1 ae r1=>?_;have t:m<c.size:=by have:=(WH.mp a).1;lia
 rfl';refine yY (au.of (s _ _ dW)) ?_;refine ?_;symm;revert q;cases g.contains m with
 |true=>intro q;rw[WO rfl];exact{by rw[WJ];decide,λp ai et s2 ag=>q _ ai s2 {p,[],rfl,ag,bw.nil}}
 |false=>intro q;rw[WM (by decide)];refine q _ G (aw.refl _) ?_;rw[WM (by decide)];exact c8 hv _ _ _ _ s (U.2 m x (rowOf c m) a (by unfold eG;rw[WG,fv t];rfl))
 rfl';rw[range_all]at r1;rfl';refine{_,_,halt g (ar c),c.size,i,rfl,⟨D,us,rfl,ae,r1⟩,RY M g,S,af,λv2 ai f s2 Y bD=>?_};let(RZ,rfl,R0):=bD;rfl';have d:=s1.trans s2;rfl';refine ui λQd hd=>?_;rfl';refine b_ Z.hc (L.mono d) (by simp) (λ_=>rfl) ?_;generalize B:(λ(m:Nat)(aa:L2.St)(G:am)=>aw ai G/\(∀q,q<m->¬(Way (halt g (ar c)) i q/\∀x∈g,¬Way (ar c) q x))/\∃cc cU,aa=[some (V.ref W.a),some (V.int (i:Int)),some (V.ref G'),some (V.ref D),some (V.ref RZ),cc,cU,none,none])=Pv;refine hd W.ways ix ai (au.of (d _ _ A)) (pa (xs:=ix) Pv (λm aa G p=>?_) ?_ (λm aa G x nR a p nY=>?_) λaa G p=>?_);rw[<-B]at p;calc au.of (p.1 _ _ (d _ _ A));rw[<-B];calc{aw.refl _,λq I=>absurd I (by lia),none,none,rfl};rw[<-B]at p;let(cg,o,cc,cU,rfl):=p;have t:m<c.size:=by have:=(WH.mp a).1;lia
 have l:=cg.trans nY;let(RM,RN,u,_,uL,wF):=pK st t;rw[A]at u;cases u;rw[uL]at a;cases a;have zu:=l _ _ (d _ _ wF);rfl';refine aZ (au.of (l _ _ R0)) (u' f t) ?_;rfl';cases J:f m with
 |false=>rw[<-B];refine{l,λq I z=>?_,_,_,rfl};by_cases e:q=m;rw[e]at z;have:=(Y m t).mpr z.1;rw[J]at this;cases this;calc o q (by lia) z
 |true=>
  rw[WO rfl];refine er (K:=K) (R:=λ_ v b=>v=V.aG b) (λ_ _ _ _ _ h=>h) (g.map λx=>reaches c m x) (by rw[WC,WJ];lia) λdI he=>?_;rfl';refine he G' _ nR (au.of (l _ _ (d _ _ dW))) (by rw[WC,WC]) (λj x z jU Qf a hz u6 q=>?_) λzv dj zh jg s4 bP r4=>?_;rw[WG]at a hz;cases a':g[j]? with
  |none=>rw[a']at a;cases a
  |some x=>rw[a']at a hz;cases a;cases hz;rfl';exact aZ (au.of (u6 _ _ zu)) (u4 (O x (WS a'))) (q _ jU (aw.refl _) rfl)
  have r4:=ew (f:=V.aG) r4;subst r4;refine{zv,_,rfl,au.of bP,?_};rw[zt];refine ?_;symm;have y:(g.any λx=>reaches c m x)=true↔∃x∈g,Way (ar c) m x:=by rw[Yy];exact{λ zz=>by let(x,ae,ag):=zz;calc {x,ae,(dC P t).mp ag},λ zz=>by let(x,ae,ag):=zz;calc {x,ae,(dC P t).mpr ag}}
  cases df:g.any (λx=>reaches c m x)with
  |false=>rw[WO rfl];rfl';refine k dj true ((d.trans l).trans s4) {λ_=>{m,(Y m t).mp J,λx a w=>?_},λ_=>rfl};rw[y.mpr ⟨x,a,w⟩]at df;cases df
  |true=>rw[<-B];refine{l.trans s4,λq I z=>?_,_,_,rfl};by_cases e:q=m;rw[e]at z;let(x,a,w):=y.mp df;calc z.2 x a w;exact o q (by lia) z
 rfl';rw[<-B,X]at p;let(cg,o,cc,cU,rfl):=p;rfl';exact k G false (d.trans cg) {λz=>(by cases z),λ zz=>by let(s,fK,eW):=zz;calc absurd ⟨fK,eW⟩ (o s ((my fK).lt P.bc af))}
def zw(P:Nat->Prop):∃u:Nat->Bool,∀m,u m=true↔P m:={λm=>@decide (P m) (Classical.propDecidable _),λm=>@aaB _ (Classical.propDecidable _)}
def R1(f:aY c)(p:∀x∈g,x<c.size)(q:∀m,u m=true↔m∉g/\¬fM c g m)(d:∀j,j<c.size->pz j=if u j=true then 1 else 0):
  ((List.range c.size).filter u).Nodup/\(∀x∈(List.range c.size).filter u,x<c.size)/\(∀i∈(List.range c.size).filter u,∃j,j∉(List.range c.size).filter u/\Way (ar c) i j)/\(∀j,j<c.size->(pz j).natAbs<2^800)/\
  pJ c g (kT c ((List.range c.size).filter u) pz,bY ((List.range c.size).filter u) (ey c ((List.range c.size).filter u) pz)):=by
 have r:=cJ f;have nd:((List.range c.size).filter u).Nodup:=Xb _ (nodup_range _);have lt:∀x∈(List.range c.size).filter u,x<c.size:=λx h=>WN.mp (WY.mp h).1;have mem:∀x,x∈(List.range c.size).filter u↔x<c.size/\x∉g/\¬fM c g x:=λx=>by rw[WY,WN,q]
 have out:∀i∈(List.range c.size).filter u,∃j,j∉(List.range c.size).filter u/\Way (ar c) i j:=λi af=>by let(x,h,w):=Iu ((mem i).mp af).2.2;grind
 have a:∀j,j<c.size->(pz j).natAbs<2^800:=λj s=>by rw[d j s];split<;>decide
 refine{nd,lt,out,a,?_};let(y,l,A,x,B,C,D):=y4 f nd lt out a;refine{y,l,YI A (Xi (by decide) (by decide)),λi t E n=>?_};have F:∀k,k<c.size->k∉(List.range c.size).filter u->x k=0:=λk ak o=>by rw[C k ak o,d k ak,WM λz=>o (WY.mpr {WN.mpr ak,z}),Xo]
 let(v,G,H,I):=z7 r (by grind) n (λk ak=>F k (p k ak) λz=>((mem k).mp z).2.1 ak) λk ak e w=>by have b:=(mem k).mpr {ak,e,It n w};erw[D k b,d k ak,WO (WY.mp b).2,Rat.intCast_one]
 have J:=W7.mpr l;grind
def R2:bt:=λK ad vs H Q _=>∃W N c a g,vs=[.ref W.a,a]/\bQ K ad W N H c/\aY c/\l3 H a g/\(∀x∈g,x<c.size)/\g.length<=24/\∀v ai s,aw H ai->fI ad ai v s->pJ c g s->Q v ai
def R3:bz Z Z.DG 4 R2:=by
 refine d0 ["walk","goals","unknowns","prizes","number"] Z.DG (λbF nd P h2=>(zx0 (aV 2 nd (bN i4)) (zx0 (aV 3 nd (bl dH (bN (av aJ)) (cm K Z.cf (aC K (ah 0))))) (zx0 (dS Xe rfl (m2 rfl Z.nt (av (cm K Z.cf (aC K (ah 0))))) (cG 4 nd) (az (bB (dP.pt (i1 (b1 (MA rfl) (ah 4) (ah 1) rfl) (i0 (jt (b9 (a5 (G9 Z) bF (aD (ah 0) (aD (ah 4) (av (ah 1)))))))))) (zx0 (dv (gS (ah 2) (av (ah 4)))) (az (kh aJ (kg (ah 3) (ah 4) set_list)))) bI))) (az (aT (a5 (y5 Z) bF (aD (ah 0) (aD (ah 2) (av (ah 3))))))))))) λH vs Q E h=>zi0 λ_ _=>?_;let(W,N,c,G_,g,rfl,C,R,z0,D,X,k):=h;let(U,rfl,dW):=z0;rfl';have jf:c.size<=24:=R.bj;have st:=C.ej;obtain⟨I,J,L⟩:∃I,H W.rows=some (.lst I)/\I.length=c.size:=by let(a,I,e,ae,ag):=st.rows;cases e;exact{I,ae,by rw[ag.1];unfold eG;rw[WC,W0]}
 let(u,P):=zw λm=>m∉g/\¬fM c g m;rfl';refine{by nofun,λA h1 y' s0 h0=>?_};rfl';refine{by rw[WJ];decide,λnQ H1 eR s1 ae=>?_};have l:=s0.trans s1;refine b_ Z.hc (C.mono l) (by simp) (λ_=>rfl) (cw (au.of (l _ _ J)) ?_);rw[L];refine{_,ae,by lia,by rw[WJ];lia,λF ai S s2 ag=>?_};rfl';rw[sb]at ag;rfl';have r:=l.trans s2;have Y:H A=none:=y';have eI:H F=none:=by
  cases e:H F with
  |none=>rfl
  |some o=>rw[l _ _ e]at S;cases S
 have zb:=s2 _ _ (s1 _ _ h0);have Ha:A≠F:=λe=>by rw[<-e,s1 _ _ h0]at S;cases S
 refine uk λd3 a9=>?_;rfl';refine b_ Z.hc (C.mono r) (by simp) (λ_=>rfl) (cw (au.of (r _ _ J)) ?_);rw[L];generalize M:(λ(m:Nat)(aa:L2.St)(G:am)=>aw H (del (del G A) F)/\G A=some (.lst (bM ((List.range m).filter u)))/\G F=some (.lst (((List.range c.size).map λj=>if j<m/\u j=true then(1:Int)else 0).map V.int))/\∃cc,aa=[some (V.ref W.a),some (V.ref U),some (V.ref A),some (V.ref F),cc])=Pv;refine a9 c.size _ (by lia) (ug Pv ?_ (λm aa G hm p=>?_) λaa G p=>?_);rw[<-M];refine{λb o e=>?_,zb,?_,none,rfl};have x:b≠A:=λz=>by rw[z,Y]at e;cases e
 have B:b≠F:=λz=>by rw[z,eI]at e;cases e
 rw[bf B,bf x];calc r _ _ e;rw[ag];congr 3;rw[<-M]at p;let(cg,O,T,cc,rfl):=p;have d:=cg.trans hx;have skip:u m=false->∀s,aw G s->Pv (m+1) [some (V.ref W.a),some (V.ref U),some (V.ref A),some (V.ref F),some (V.int (m:Int))] s:=by
  intro f s i;rw[<-M];refine{λb o e=>?_,?_,?_,_,rfl};have x:b≠A:=λz=>by rw[z,Y]at e;cases e
  have B:b≠F:=λz=>by rw[z,eI]at e;cases e
  rw[bf B,bf x];calc i _ _ (d _ _ e);rw[i _ _ O,yM,f,WM (by decide),XC];rw[i _ _ T];congr 3;refine Xs λj _=>?_;by_cases t:j<m/\u j=true;rw[WO t,WO {by lia,t.2}];rw[WM t,WM λz=>t {by
   have:j≠m:=λe=>by rw[e,f]at z;cases z.2
   lia,z.2}]
 rfl';refine QA (au.of (d _ _ dW)) ?_;rfl';cases w:g.contains m with
 |true=>rw[WM (by decide)];refine skip ?_ G (aw.refl _);rw[<-Xj,P];calc λz=>z.1 (WX.mp w)
 |false=>
  rw[WO rfl];refine{W,N,c,m,_,g,rfl,C.mono d,R,hm,{U,rfl,d _ _ dW},D,X,λs b i bD=>?_};refine ?_;symm;have f:u m= !b:=by rw[Xu,P,XB,<-Xj,bD];exact{λz=>z.2,λz=>{λy=>(by rw[WX.mpr y]at w;cases w),z}}
  cases b with
  |true=>rw[WM (by decide)];calc skip f s i
  |false=>
   rw[WO rfl];rfl';have f:u m=true:=f;refine{{_,i _ _ O},_,i _ _ O,?_,?_};rw[WC];have:=YY u (List.range m);rw[W0]at this;rw[WJ];lia;rfl';refine iA (by rw[aK (XE Ha)];calc i _ _ T) (by simp;calc hm) ?_;have cS:=set_range (g:=m) (λj=>if j<m/\u j=true then(1:Int)else 0) (λj=>if j<m+1/\u j=true then(1:Int)else 0) hm λj t=>by by_cases e:j=m;rw[WO e,e];rw[WM e];by_cases q:j<m/\u j=true;rw[WO q,WO {by lia,q.2}];rw[WM q,WM λz=>q {by lia,z.2}]
   rw[WO {by nofun,f}]at cS;rw[cS,<-M];refine{λb o e=>?_,?_,aO,_,rfl};have x:b≠A:=λz=>by rw[z,Y]at e;cases e
   have B:b≠F:=λz=>by rw[z,eI]at e;cases e
   rw[bf B,bf x,aK B,aK x];calc i _ _ (d _ _ e);rw[aK Ha,aO,yM,f,WO rfl,nS]
 rfl';rw[<-M]at p;let(cg,O,T,cc,rfl):=p;rfl';have d:=cg.trans hx;let(fp,eB,o8,o9,R4):=R1 R D P (pz:=λj=>if j<c.size/\u j=true then(1:Int)else 0) λj t=>by show(if j<c.size/\u j=true then(1:Int)else 0)=_;by_cases e:u j=true;rw[WO e,WO ⟨t,e⟩];rw[WM e,WM λz=>e z.2]
 rfl';calc{W,N,c,_,_,_,_,rfl,C.mono d,R,⟨A,rfl,O⟩,fp,eB,o8,⟨F,rfl,T⟩,o9,λv s i r5=>k v s _ (d.trans i) r5 R4}
theorem Hb(h:∀x,t.contains x=t'.contains x):∀n l,grownBefore c t n l=grownBefore c t' n l
 |0,l=>rfl|n+1,l=>by
  have e:(λj=>l.contains j||l.any λi=> !t.contains i&&decide (0<(chance c i j).num))=(λj=>l.contains j||l.any λi=> !t'.contains i&&decide (0<(chance c i j).num)):=by nofun
  show grownBefore c t n (List.filter _ _)=grownBefore c t' n (List.filter _ _);erw[e];calc Hb h n _
def R5(h:∀x,x∈t↔x∈t'):stepsTo c i t=stepsTo c i t':=by
 have hc:∀x,t.contains x=t'.contains x:=λx=>by rw[Xu,WX,WX];exact h x
 have a:ahead c t i=ahead c t' i:=by unfold ahead;rw[Hb hc];nofun
 erw[oa,oa,a];nofun
def R6(h:∀x,x∈t↔x∈t'):fM c t i↔fM c t' i:=by
 have e:halt t (ar c)=halt t' (ar c):=by unfold halt;nofun
 unfold fM;nofun
def Hc(h:∀x,x∈t↔x∈t')(o:pJ c t s):pJ c t' s:=
 {o.len,o.pos,o.small,λi u a b=>by rw[<-R5 h];calc o.is i u a λz=>b ((R6 h).mp z)}
def R7:∀{ns:List Int}{g:List Nat},ns.Perm (g.map λj:Nat=>j)->∃g':List Nat,ns=g'.map (λj:Nat=>(j:Int))/\∀x,x∈g'↔x∈g:=by
 intro ns g h;refine{ns.map Int.toNat,?_,λx=>?_};rw[Xg];conv=>lhs;rw[<-Y_ ns]
 refine Xs λx b=>?_;let(j,_,rfl):=List.mem_map.mp (h.mem_iff.mp b);rfl;simp only[List.mem_map,h.mem_iff];constructor;rintro⟨_,⟨b,k,rfl⟩,rfl⟩;calc k;calc λk=>⟨x,⟨x,k,rfl⟩,rfl⟩
def so g:(gZ g).map cb=bM g:=by unfold gZ;rw[Xg];rfl
def R8(h:gZ g=gZ g'):g=g':=by
 have:=congrArg (List.map cb) h;erw[so,so]at this;have c:∀a b,bM a=bM b->a=b:=by
  intro a;induction a with
  |nil=>intro b h;cases b with|nil=>rfl|cons y b=>nofun
  |cons x a d=>intro b h;cases b with|nil=>nofun|cons y b=>grind
 grind
def R9 {W:cP}{N:Nat}{H:am}{c:Chain} (h:bQ K ad W N H c) {kvs:List (List Key×V)} (ak:H W.steps=some (.d6 kvs)) {g:List Nat}{v:V}{s:List Int×Int} (x:cr kvs (gZ g)=none) (r:fI ad (cut W H) v s) (o:pJ c g s):bQ K ad W (N+1) (upd H W.steps (.d6 (putK kvs (gZ g) v))) c:=by
 let(y,f,j):=h.ins;let(k1,k,l,a):=h.come;let(k2,d,A,t):=h.steps;let(k3,m,n,b):=h.steady;rw[d]at ak;cases ak;have e:=l7 (W:=W) (H:=H) (p:=W.steps) (o:=.d6 (putK kvs (gZ g) v)) (.inr (.inr (.inl rfl)));have B:W.a≠W.steps:=λz=>by rw[z,d]at f;cases f
 have C:W.come≠W.steps:=λz=>by rw[z,d]at k;cases k
 have D:W.steady≠W.steps:=λz=>by rw[z,d]at m;cases m
 refine{{y,by rw[aK B];calc f,by nofun},by rw[e];calc h.st,{k1,by rw[aK C];calc k,l,by nofun},{_,aO,by rw[BI v x,WI];show _+1<=_;nofun,λi u q=>?_},{k3,by rw[aK D];calc m,n,by grind},h.ne};rw[e];rw[jA]at q;by_cases w:gZ i=gZ g
 ·rw[WO w]at q
  cases q;rw[R8 w];grind
 ·nofun
def R_:bt:=λK ad vs H Q _=>∃W N c,∃i:Nat,∃a g,vs=[.ref W.a,.int i,a]/\bQ K ad W N H c/\N<=1000/\aY c/\i<c.size/\l3 H a g/\(∀x∈g,x<c.size)/\g.length<=24/\¬fM c g i/\
 ∀v ai f,Kept K ad W (N+1) c H ai->stepsTo c i g=some f->eT K (cut W ai) v f->Q v ai
def R':bz Z Z.DF 5 R_:=by
 refine d0 ["walk","origin","goals","key","sums"] Z.DF (λS nd I U=>(ax (aV 3 nd (kn (M3 rfl) (by rfl) Z.Nj PyProof.Rows.Boot.«tuple» (av (gm (M0 rfl) (by rfl) Z.Nh PyProof.Rows.Boot.«sorted» (av (ah 2)))))) (ax (bB (iZ (m_ I (ah 3) (aC K (ah 0))) rfl) (az (m' I (aC K (ah 0)) (ah 3) (a5 (R3 Z) S (aD (ah 0) (av (ah 2)))) rfl)) bI) (zx0 (aV 4 nd (ku I (aC K (ah 0)) (ah 3) λ_ _=>rfl)) (az (aT (a5 (jJ Z) S (aD (aQ K (aC K (ah 4)) (ah 1)) (av (aC K (ah 4))))))))))) λH vs Q E h=>?_;let(W,N,c,i,G_,g,rfl,e6,e2,dJ,af,z0,L,M,hm,k):=h;let(J,rfl,X):=z0;show eL ?uQ (eL ?nG ?yI) ?pC ?rR ?rS;generalize iy: ?yI=B;have u:∀(T:Addr)(g':List Nat)ai,Kept K ad W (N+1) c H ai->ai T=some (.tup (bM g'))->(∀x,x∈g'↔x∈g)->(∀kvs,ai W.steps=some (.d6 kvs)->∃v,cr kvs (gZ g')=some v)->B {nx:=λ_ aj=>Q .bb aj,rt:=Q} [some (V.ref W.a),some (V.int (i:Int)),some (V.ref J),some (V.ref T),none] ai:=by intro T g' ai ak gq d F;rw[<-iy];rfl';let(kvs,ae,ag,Y):=ak.at_.steps;let(v,F):=F kvs ae;let(s,r,o):=Y g' v F;have o:=Hc d o;obtain⟨t,bW⟩:∃t,s.1[i]? =some t:={_,WK (by rw[o.len];calc af)};let(f,f1,f2,qX):=o.is i t bW hm;let(a,ao,l,rfl,G,A):=r;have G:=c3 _ _ G;have A:=c3 _ _ A;rfl';refine b_ Z.hc ak.at_ (by simp) (λ_=>rfl) {W.steps,rfl,.ref a,?_,?_};have:=dA.t (k:=gZ g') ae (b:=T) (by rw[so];calc gq);rw[F]at this;calc this;rfl';refine pO Z.hc G (aZ (au.of A) (v:=.int t) (by nofun) ?_);refine pP Z.hc G ?_;refine{_,_,rfl,o.pos,kZ o.small,λv2 bU s3 r3=>?_};have k3:=ak.then s3;refine k v2 bU f k3 f1 (n0 k3.at_ ?_);rw[pR f2 o.pos qX]at r3;exact r3
 rfl';have O:bM g=(g.map λj:Nat=>(j:Int)).map V.int:=by rw[Xg];rfl
 refine{J,g.map λj:Nat=>(j:Int),rfl,by rw[<-O];calc au.of X,by grind,λVD p a8 _ np=>?_};let(g',rfl,d):=R7 a8;have C:(g'.map λj:Nat=>(j:Int)).map V.int=bM g':=by rw[Xg];rfl
 erw[C];refine{p,_,rfl,au.of aO,λT jE=>?_};have s1:aw H (upd (upd H p (.lst (bM g'))) T (.tup (bM g'))):=(fi np).trans (fi jE);have n:upd (upd H p (.lst (bM g'))) T (.tup (bM g')) T=some (.tup (bM g')):=aO;generalize upd (upd H p (.lst (bM g'))) T (.tup (bM g'))=H1 at s1 n;have m:=e6.mono s1;let(kvs,ae,ag,Y):=m.steps;have P:=dA.t (k:=gZ g') ae (b:=T) (by rw[so];calc n);refine b_ Z.hc m (by simp) (λ_=>rfl) {W.steps,rfl,_,P,?_};cases e:cr kvs (gZ g')with
 |some v=>refine u T g' H1 {eH s1,m.more (by nofun)} n d λD h'=>?_;rw[ae]at h';cases h';calc⟨v,e⟩
 |none=>
  rw[WO (show(none:Option V).isSome=false from rfl)];refine{W,N,c,_,g,rfl,m,dJ,{J,rfl,s1 _ _ X},L,M,λv ai s y A o=>?_};have w:=m.mono y;refine b_ Z.hc w (by simp) (λ_=>rfl) ?_;have q:=y _ _ n;have R:=hS.t (k:=gZ g') (v:=v) (y _ _ ae) (b:=T) (by rw[so];calc q) (by rw[WJ];lia);have TW:T≠W.steps:=λz=>by erw[z,y _ _ ae]at q;cases q
  refine{W.steps,rfl,_,R,u T g' _ {?_,R9 w (y _ _ ae) e (zq w A) (Hc (λx=>(d x).symm) o)} (by rw[aK TW];calc q) d λD h'=>?_};rw[l7 (.inr (.inr (.inl rfl)))];calc eH (s1.trans y);rw[aO]at h';cases h';exact{v,by rw[jA,WO rfl]}
def Sa:bt:=λK ad vs H Q _=>∃W N c,∃i:Nat,vs=[.ref W.a,.int i]/\bQ K ad W N H c/\aY c/\i<c.size/\∀ai b,aw H ai->(b=true↔iJ c i)->Q (.aG b) ai
def Sb(h:iz K ad W G c):∃xs,G W.worths=some (.lst xs)/\xs.length=c.size/\∀m,m<c.size->∃t,xs[m]? =some (.ref t)/\bJ K G t [.int (c.node m).worth.num,.int ((c.node m).worth.den)]/\d5 (c.node m).worth:=by let(a,xs,e,ae,ag):=h.worths;cases e;refine{xs,ae,by rw[ag.1,WC];rfl,λm b=>?_};let(v,d,z,g):=ag.get (by rw[WG,nW b];rfl);let(t,rfl,f):=z;nofun
def Sc:bz Z Z.DH 2 Sa:=by
 refine bX ["walk","origin","number","worth"] Z.DH λH vs Q E R nd f b h=>{_,(zx0 (dS Xe rfl (ky rfl Z.kL (av (aC K (ah 0)))) (ee rfl rfl (b0 (cG 2 nd) (b0 (cG 3 nd) ec))) (az (bB (dP.pt (i1 (b1 (k_ne rfl b) (ah 3) (ja Z.hn rfl) (bZ _)) (i0 (b9 (a5 (G8 Z) R (aD (ah 0) (aD (ah 1) (av (ah 2))))))))) (az (aT js)) bI))) (az (aT js))),zi0 λ_ _=>?_};clear nd f b;let(W,N,c,i,rfl,r,M,af,k):=h;rfl';have X:=cJ M;have st:=r.ej;let(xs,g,s,v):=Sb st;rfl';refine ui λQd hd=>?_;rfl';refine b_ Z.hc r (by simp) (λ_=>rfl) ?_;generalize j:(λm(aa:L2.St)(G:am)=>aw H G/\(∀q,q<m->¬((c.node q).worth.num≠0/\fa c i q))/\∃w y,aa=[some (V.ref W.a),some (V.int (i:Int)),w,y])=Pv;refine hd W.worths xs H (au.of g) (pa (xs:=xs) Pv (λm aa G p=>?_) ?_ (λm aa G x O A p B=>?_) λaa G p=>?_);rw[<-j]at p;calc au.of (p.1 _ _ g);rw[<-j];calc{aw.refl _,λq P=>absurd P (by nofun),none,none,rfl};rw[<-j]at p;let(C,d,w,y,rfl):=p;have D:m<c.size:=by have:=(WH.mp A).1;nofun
 have a:=C.trans B;let(t,F,I,J):=v m D;rw[F]at A;cases A;have next:¬((c.node m).worth.num≠0/\fa c i m)->Pv (m+1) [some (V.ref W.a),some (V.int (i:Int)),some (V.int (m:Int)),some (V.ref t)] O:=by intro L;rw[<-j];refine{a,λq P z=>?_,_,_,rfl};by_cases e:q=m;rw[e]at z;calc L z;exact d q (by lia) z
 rfl';refine C4 (xs:=[(c.node m).worth.num,((c.node m).worth.den:Int)]) (ys:=[0,1]) (d9 a I) (Z.hn.2 _) ?_;rw[ym J];rfl';by_cases o:(c.node m).worth.num=0;rw[show((c.node m).worth.num==0)=true by simpa using o];rw[WM (by decide)];calc next λz=>z.1 o;rw[show((c.node m).worth.num==0)=false by simpa using o];rw[WO rfl];let(u,f):=zw λ_=>fa c i m;refine{W,N,c,i,m,u 0,rfl,r.mono a,M,af,D,f 0,?_};refine ?_;symm;cases l:u 0 with
 |true=>rw[WO rfl];rfl';calc k O true a {λ_=>{m,D,o,(f 0).mp l},λ_=>rfl}
 |false=>
  rw[WM (by decide)];refine next λz=>?_;have:=(f 0).mpr z.2;rw[l]at this;cases this
 rfl';simp only[<-j,s]at p;let(C,d,w,y,rfl):=p;rfl';exact k G false C {λz=>(by cases z),λ zz=>by let(q,S,T,U):=zz;calc absurd ⟨T,U⟩ (d q S)}
def Sd(a:aY c)k:aU (c.node k).worth:=by by_cases ak:k<c.size;calc iT (gK a ak).worth;unfold Vaprbq.Chain.node;rw[Zn (by have:c.size=c.states.length:=rfl;nofun)];calc dp
def gB(c:Chain)(j:Nat):Int:=(c5 (c.states.map (·.worth)))[j]?.getD 0
def pT  (b:aY c)  (d:j<c.size):(gB c j)=cR c j*((b' (c.states.map (·.worth))):Int)/\(gB c j).natAbs<2^800:=by
 have fq:∀w∈c.states.map (·.worth),d5 w:=λw a=>by let(s,hs,e):=WT.mp a;rw[<-e];exact(b.nodes s hs).worth
 have a:(c.node j).worth∈c.states.map (·.worth):=WT.mpr {c.node j,WS (nW d),rfl};have e:gB c j=(c.node j).worth.num*((b' (c.states.map (·.worth))/(c.node j).worth.den:Nat):Int):=by unfold gB c5;erw[WG,WG,nW d];rfl
 rw[e];refine{tg fq a,?_};have hl:=uW fq (by rw[WC];exact b.bj) (c.states.map (·.worth)).length;rw[rW]at hl;erw[XW,W8]
 calc (c.node j).worth.num.natAbs*(b' (c.states.map (·.worth))/(c.node j).worth.den)<=2^30*2^720:=X3 (W1 (fq _ a).top (by decide)) (W1 (Ya ..) hl.2)
  _=2^750:=by rw[<-aax]
  _<2^800:=Xi (by decide) (by decide)
def Se:c5 (c.states.map (·.worth))=(List.range c.size).map (gB c):=by
 have hl:(c5 (c.states.map (·.worth))).length=c.size:=by unfold c5;erw[WC,WC];rfl
 apply XS;nofun;intro i ae ag;unfold gB;grind
def e8(c:Chain):List Nat:=(List.range c.size).filter λm=> !Vaprbq.closed c (classOf c m)
def Sf  (a:aY c):(e8 c).Nodup/\(∀x∈e8 c,x<c.size)/\(∀i∈e8 c,∃j,j∉e8 c/\Way (ar c) i j)/\
  r_ c (kT c (e8 c) (gB c),bY (e8 c) (ey c (e8 c) (gB c))*((b' (c.states.map (·.worth))))):=by
 have b:=cJ a;have nd:(e8 c).Nodup:=Xb _ (nodup_range _);have mem:∀x,x∈e8 c↔x<c.size/\¬c4 (ar c) x:=λx=>by unfold e8;rw[WY,WN,XB,<-Xj];exact{λz=>{z.1,λh=>z.2 ((oe b z.1).mpr h)},λz=>{z.1,λh=>z.2 ((oe b z.1).mp h)}}
 have lt:∀x∈e8 c,x<c.size:=λx f=>((mem x).mp f).1;have out:∀i∈e8 c,∃j,j∉e8 c/\Way (ar c) i j:=λi af=>by let(q,A,B):=ob b _ i (lt i af) (W2 _);grind
 refine{nd,lt,out,?_};have fq:∀w∈c.states.map (·.worth),d5 w:=λw g=>by let(s,hs,e):=WT.mp g;rw[<-e];exact(a.nodes s hs).worth
 have hl:=uW fq (by rw[WC];exact a.bj) (c.states.map (·.worth)).length;rw[rW]at hl;have l:(0:Rat)<((b' (c.states.map (·.worth))):Int):=cast_pos hl.1;let(m,d,n,x,C,o,p):=y4 a nd lt out λj r=>(pT a r).2;have D:0<((bY (e8 c) (ey c (e8 c) (gB c))):Rat):=W7.mpr d;refine{m,aa2 d (by nofun),?_,λi t E u=>?_}
 .rw[XW,W8]
  calc _<=2^6640*2^720:=X3 (Yg n) hl.2
   _=2^7360:=by rw[<-aax]
   _<2^7400:=Xi (by decide) (by decide)
 have af:i<c.size:=by grind
 let(v,F,G,H):=z' b (Sd a) af u (x:=λk=>x k/((b' (c.states.map (·.worth)):Nat):Int)) (λk w aI=>by
  have ak:=w.lt b.bc af;erw[o k ak λz=>((mem k).mp z).2 aI,(pT a ak).1];grind) λk w aI=>by
  have ak:=w.lt b.bc af;have e:=p k ((mem k).mpr ⟨ak,aI⟩);have y:aq (List.range c.size) (λq=>ar c k q*(x q/((b' (c.states.map (·.worth)):Nat):Int)))=(((b' (c.states.map (·.worth)):Nat):Int):Rat)⁻¹*aq (List.range c.size) (λq=>ar c k q*x q):=by rw[<-cn];grind
  erw[e,(pT a ak).1,Yq];grind
 grind
def Sg:bt:=λK ad vs H Q _=>∃W N c,vs=[.ref W.a]/\bQ K ad W N H c/\aY c/\∀v ai s,aw H ai->fI ad ai v s->r_ c s->Q v ai
def Sh:bz Z Z.DJ 4 Sg:=by
 refine bX ["walk","whole_worths","unknowns","sums","number","closed"] Z.DJ λH vs Q E A nd T d h=>{_,(zx0 (aV 1 nd (a5 (FY Z) A (av (aC K (ah 0))))) (zx0 (kr (i:=2) rfl nd rfl rfl (ks rfl rfl rfl rfl) (ky rfl Z.kL (av (aC K (ah 0)))) (cM (own:=[("number",4),("closed",5)]) (by kernel_rfl)) (λ_ _ _ _ _=>ee (n:=2) rfl rfl (b0 (b3 4 nd) (b0 (b3 5 nd) ec))) (λ_ _ _ _ _=>(oY (jt (b9 (ah 5))))) λ_ _ _ _ _=>ck (ah 4)) (zx0 (aV 3 nd (a5 (y5 Z) A (aD (ah 0) (aD (ah 2) (av (aQ K (ah 1) aJ)))))) (az (aT (hX (F' Z) (A.mono (by decide)) rfl (aD (aC K (ah 3)) (av (bl dH (aC K (ah 3)) (aQ K (ah 1) aJ)))))))))),?_};clear nd T d;let(W,N,c,rfl,r,b,k):=h;rfl';have cF:=cJ b;have st:=r.ej;have B:c.size<=24:=b.bj;let(C,F,I,M):=Sf b;rfl';refine b_ Z.hc r (by simp) (λ_=>rfl) ?_;refine{_,_,rfl,st.worths,by rw[WC];calc B,λt l H1 s1 O hl=>?_};rfl';rw[Se]at hl;rfl';refine yN (by decide) va c.size (λm=> !Vaprbq.closed c (classOf c m)) id (by rw[WJ];lia) λd3 U=>?_;rfl';refine b_ Z.hc (r.mono s1) (by simp) (λ_=>rfl) ?_;refine U W.closed _ H1 (au.of (s1 _ _ (F9 st))) (by unfold kS;simp) (λm x aj pE u s q=>?_) (λm x G dI u hf s q=>?_) λD ai us fH y ag z=>?_
 .have X:m<c.size:=by have:=(WH.mp u).1;unfold kS at this;simpa using this
  rw[F_ X]at u;cases u;rfl';exact q
 .rfl';exact q _ G (aw.refl _) rfl
 rfl';rw[Y_]at z;rfl';have z:=ew (f:=λi:Nat=>V.int (i:Int)) z;subst z;have g:=s1.trans y;rfl';refine d_ (j:=0) (d9 y O) rfl ?_;refine{W,N,c,_,e8 c,_,gB c,rfl,r.mono g,b,⟨D,rfl,ag⟩,C,F,I,{l,rfl,y _ _ hl},λj o=>(pT b o).2,λv bU P Y=>?_};let(a,ao,tP,rfl,R,bP):=Y;rfl';refine pO Z.hc R (pP Z.hc R ?_);refine d_ (j:=1) (d9 (y.trans P) O) rfl ?_;have qs:=M.small;have J:Small (bY (e8 c) (ey c (e8 c) (gB c))):=by have:=(gj (u9 b C F I (pz:=gB c) λj o=>(pT b o).2) (u9 b C F I (pz:=gB c) λj o=>(pT b o).2).good λ_ hs=>hs).2.1;exact u1 this
 have fq:∀w∈c.states.map (·.worth),d5 w:=λw hw=>by let(s,hs,e):=WT.mp hw;rw[<-e];exact(b.nodes s hs).worth
 have p:=uW fq (by rw[WC];calc b.bj) (c.states.map (·.worth)).length;rw[rW]at p;calc{J.mul (jP p.2 (by decide)),λx L dZ nx S cV=>k _ dZ (kT c (e8 c) (gB c),bY (e8 c) (ey c (e8 c) (gB c))*((b' (c.states.map (·.worth)):Nat):Int)) ((g.trans P).trans S) {x,L,tP,rfl,cV,S _ _ bP} M}
def Si:bt:=λK ad vs H Q _=>∃W N c,∃i:Nat,vs=[.ref W.a,.int i]/\bQ K ad W N H c/\aY c/\i<c.size/\¬iJ c i/\∀v ai f,Kept K ad W N c H ai->Vaprbq.gain c i=some f->eT K (cut W ai) v f->Q v ai
def Sj(h:bQ K ad W N H c)(r:fI ad (cut W H) v s)(o:r_ c s):bQ K ad W N (upd H W.a (.ins ad.Walk W.ao (nM W v))) c:=by
 let(w,f,n):=h.ins;let(k1,g,i,a):=h.come;let(k2,j,k,b):=h.steps;let(k3,l,m,d):=h.steady;have e:=l7 (H:=H) (p:=W.a) (o:=.ins ad.Walk W.ao (nM W v)) (.inl rfl);have q:W.come≠W.a:=λz=>by rw[z,f]at g;cases g
 have t:W.steps≠W.a:=λz=>by rw[z,f]at j;cases j
 have u:W.steady≠W.a:=λz=>by rw[z,f]at l;cases l
 exact{{v,aO,by rw[e];calc .inr ⟨s,r,o⟩},by rw[e];calc h.st,{k1,by rwa[aK q],i,by rwa[e]},{k2,by rwa[aK t],k,by rwa[e]},{k3,by rwa[aK u],m,by rwa[e]},h.ne}
def Sk:bz Z Z.DI 5 Si:=by
 refine d0 ["walk","origin"] Z.DI (λw nd P x=>(ax (bB (iZ (AD (aC K (ah 0)))) (az (cN K (ah 0) (a5 (Sh Z) w (av (ah 0))))) bI) (az (aT (a5 (jJ Z) w (aD (aQ K (aC K (aC K (ah 0))) (ah 1)) (av (aC K (aC K (ah 0)))))))))) λH vs Q E h=>?_;let(W,N,c,i,rfl,q,C,af,D,k):=h;show eL ?uQ ?nG ?pC ?rR ?rS;generalize F: ?nG=B;have b:∀ai g s,Kept K ad W N c H ai->ai W.a=some (.ins ad.Walk W.ao (nM W g))->fI ad (cut W ai) g s->r_ c s->B {nx:=λ_ aj=>Q .bb aj,rt:=Q} [some (V.ref W.a),some (V.int i)] ai:=by intro ai g s ak y r o;rw[<-F];obtain⟨t,z⟩:∃t,s.1[i]? =some t:={_,WK (by rwa[o.len])};let(f,G,I,J):=o.is i t z D;let(a,ao,l,rfl,j,d):=r;have j:=c3 _ _ j;have d:=c3 _ _ d;rfl';refine fld y Z.hc.walk (by simp) rfl (pO Z.hc j (aZ (au.of d) (v:=.int t) (by nofun) ?_));refine fld y Z.hc.walk (by simp) rfl (pP Z.hc j ?_);refine{_,_,rfl,o.pos,kZ o.small,λL M O m=>?_};have k3:=ak.then O;refine k L M f k3 G (n0 k3.at_ ?_);rwa[pR I o.pos J]at m
 rfl';let(g,ae,ag):=q.ins;refine fld ae Z.hc.walk (by simp) rfl ?_;rcases ag with rfl|⟨s,r,o⟩
 rfl';refine{W,N,c,rfl,q,C,λv ai s u d A=>?_};have n:=q.mono u;refine cO (u _ _ ae) Z.hc.walk (by simp) (by show 11<1000;decide) ?_;have m:=zq n d;have e:=l7 (H:=ai) (p:=W.a) (o:=.ins ad.Walk W.ao (nM W v)) (.inl rfl);refine b _ v s {?_,Sj n m A} aO ?_ A;have:=eH (W:=W) u;rwa[<-e]at this;have:=m;rwa[<-e]at this;let(a,ao,l,rfl,j,d):=id r;rfl';calc b H _ s (Kept.refl q) ae r o
def eU(c:Chain)(f:Nat)(g s:Nat):Int:=if s=c.size then bq (rowOf c f) g else(if g=s then aM c g else 0)-bq (rowOf c s) g
def stM(c:Chain)(f:Nat):aX:=λg s=>(eU c f g s)
def flow(c:Chain)(f:Nat)(r:List Nat)(s:Nat):Int:=if s=f then bY r (stM c f)else cW r c.size (stM c f) s
structure mc(c:Chain)(f:Nat)(r:List Nat):Prop where
 nodup:(f::r).Nodup
 lt:∀i∈f::r,i<c.size
 way:∀i∈r,Way (ar c) i f
def pU(d:aY c)(hl:l∈Vaprbq.classes c):∃f r,l=f::r/\mc c f r/\gi c f/\l=classOf c f:=by
 have g:=cJ d;let(i,af,rfl,a):=vZ hl;cases e:classOf c i with|nil=>unfold gi at a;nofun|cons f r=>
  have:f=i:=by unfold gi at a;nofun
  subst this;refine{f,r,rfl,{by rw[<-e];calc sW c f,λx b=>iK (i:=f) (by nofun),λx b=>?_},a,e.symm};have:x∈classOf c f:=by erw[e];exact WE _ b
  calc((dk g af).mp this).2
def Hd(a:aY c)(h:mc c f r):fu mm r c.size (eU c f) (stM c f):=by
 have k:=cJ a;have b:=W3.mp h.nodup;have lt:=λi af=>h.lt i (WE _ af);have len:r.length<=24:=by have:=eA r (List.range c.size) b.2 λx l=>WN.mpr (lt x l);rw[W0]at this;exact W1 this a.bj
 refine{k8,?_,λi j=>rfl,len,λz=>absurd (lt _ z) (by simp),λg d s hs=>?_,λg d=>?_};refine lg k.bc b.2 lt (λi af=>W7.mpr (e0 a (lt i af)).1) (λi af j n=>?_) λi af=>{f,b.1,h.way i af};show((eU c f j i):Rat)=_;unfold eU;rw[WM (Xz (lt i af)),Yj,(du a (lt i af)).is j];show _-(aM c i)*ar c i j=_;by_cases e:i=j;grind;rw[WM (XE e),Xo];grind;unfold eU;have R:=du a (lt s hs);have ae:=u7 R g;have ag:=mV R g;have m:=R.small;have o:=e0 a (lt g d);rw[WM (Xz (lt s hs))];split<;>omega;unfold eU;have R:=du a (h.lt f (WD ..));have ae:=u7 R g;have ag:=mV R g;have m:=R.small;lia
def part(c:Chain)(f:Nat)(r:List Nat)(s:Nat):Int:=flow c f r s*aM c s
def ek(c:Chain)(f:Nat)(r:List Nat):Int:=bV ((f::r).map (part c f r))
def zx(k:aY c)(h:mc c f r):(∀s∈f::r,0<=flow c f r s/\(flow c f r s).natAbs<2^8000)/\0<flow c f r f/\
  ∀j∈r,(aM c j)*flow c f r j=aq (f::r) (λi=>(flow c f r i)*bq (rowOf c i) j):=by
 have a:=Hd k h;have l:=W3.mp h.nodup;have lt:=λi af=>h.lt i (WE _ af);let(z,hz):=h5 a.elim r (stM c f) a.good c.size;let(cB,bX,m):=gj a a.good λ_ hs=>hs;have hd:=W7.mpr m;have n:flow c f r f=bY r (stM c f):=by unfold flow;rw[WO rfl]
 have fr:∀s∈r,flow c f r s=cW r c.size (stM c f) s:=λs hs=>by unfold flow;rw[WM ((λs hs e=>l.1 (by nofun)) s hs)]
 refine{λs hs=>?_,by nofun,λj b=>?_};rcases WW.mp hs with e|hs
 grind;rw[fr s hs];let(p,q):=jq a hs hz;refine{?_,q};have:0<=(cW r c.size (stM c f) s:Rat):=by rw[p];exact Xf (XJ hd) ((λs hs=>n4 a.elim a.good hz (λi af=>by show(0:Rat)<=((eU c f i c.size));unfold eU;rw[WO rfl];calc Yt.mpr (mV (du k (h.lt f (WD ..))) i)) hs) s hs)
 calc Yt.mp this;have ae:=hz j b;have u:stM c f j c.size=(bq (rowOf c f) j):=by show((eU c f j c.size):Rat)=_;unfold eU;nofun
 have v:aq r (λt=>stM c f j t*z t)=(aM c j)*z j-aq r (λt=>(bq (rowOf c t) j)*z t):=by
  have:aq r (λt=>stM c f j t*z t)=aq r (λt=>(if j=t then 1 else 0)*((aM c j)*z t)-(bq (rowOf c t) j)*z t):=br λt d=>by show((eU c f j t))*z t=_;unfold eU;rw[WM (Xz (lt t d)),Yj];by_cases e:j=t;grind;erw[WM e,Xo];grind
  erw[this,dm,g6 l.2 b]
 rw[v]at ae;have w:aq r (λi=>(flow c f r i)*bq (rowOf c i) j)=(bY r (stM c f))*aq r (λt=>(bq (rowOf c t) j)*z t):=by rw[<-cn];exact br λt d=>by erw[fr t d,(jq a d hz).1];grind
 erw[bu,fr j b,(jq a b hz).1];grind
def Sl l f:((bV (l.map f)))=aq l (λi=>(f i)):=by
 erw[j5,gH];induction l with|nil=>rfl|cons x r a=>erw[dE,bu,a]
theorem He B:∀l,(∀x∈l,x.natAbs<=B)->(bV l).natAbs<=l.length*B|[],_=>by show(0:Int).natAbs<=_;simp|x::r,h=>by have ae:=h x (WD ..);have ag:=He B r λy a=>h y (WE _ a);show(x+bV r).natAbs<=_;erw[WL,Y8];calc W1 (Int.natAbs_add_le _ _) (Nat.add_comm B _▸Nat.add_le_add ae ag)
def zy(d:aY c)(h:mc c f r):(∀s∈f::r,0<=part c f r s/\(part c f r s).natAbs<2^8273)/\0<ek c f r/\Small (ek c f r):=by
 let(a,b,_):=zx d h;have p:∀s∈f::r,0<=part c f r s/\(part c f r s).natAbs<2^8273:=λs hs=>by
  let(ae,ag):=a s hs;let(g,j):=e0 d (h.lt s hs);unfold part;refine{YH ae (Zp g),?_};rw[XW]
  calc (flow c f r s).natAbs*(aM c s).natAbs<2^8000*2^273:=Nat.mul_lt_mul_of_lt_of_le ag (Yg (by lia)) (by nofun)
   _=2^8273:=by rw[<-aax]
 refine{p,?_,{?_}};show 0<part c f r f+bV (r.map (part c f r));have ae:0<part c f r f:=aa2 b (e0 d (h.lt f (WD ..))).1;have ag:0<=bV (r.map (part c f r)):=j' _ λx e=>by grind
 lia;have ae:=He (2^8273) ((f::r).map (part c f r)) λx e=>by grind
 have ag:(f::r).length<=24:=by have:=eA (f::r) (List.range c.size) h.nodup λx e=>WN.mpr (h.lt x e);rw[W0]at this;exact W1 this d.bj
 rw[WC]at ae;calc (ek c f r).natAbs<=24*2^8273:=W1 ae (XH _ ag)
  _<=2^5*2^8273:=XH _ (by decide)
  _=2^8278:=by rw[<-aax]
  _<2^8999:=Xi (by decide) (by decide)
def vm(d:aY c)(h:mc c f r):Vaprbq.steady c (f::r)=(f::r).map λs=>frac (part c f r s) (ek c f r).toNat:=by
 have m:=cJ d;let(a,b,fl):=zx d h;let(t,bn,u):=zy d h;have v:0<(ek c f r:Rat):=W7.mpr bn;have n:(((ek c f r).toNat))=ek c f r:=by lia
 have hs:=Ab m h.nodup h.lt h.way (λj k=>by
  have o:=h.lt j (WE _ k);have g:aq (f::r) (λi=>(part c f r i)/(ek c f r)*ar c i j)=(ek c f r:Rat)⁻¹*aq (f::r) (λi=>(flow c f r i)*bq (rowOf c i) j):=by rw[<-cn];refine br λi af=>?_;unfold part;erw[(du d (h.lt i af)).is j,W6,Yq];show(flow c f r i)*(aM c i)*_*_=_*(_*((aM c i:Rat)*_));grind
  rw[g,<-fl j k];unfold part;erw[Yq];grind) (by
  have g:aq (f::r) (λs=>(part c f r s:Rat)/(ek c f r:Rat))=(ek c f r:Rat)⁻¹*aq (f::r) (λs=>(part c f r s:Rat)):=by rw[<-cn];grind
  rw[g,<-Sl];show _*((ek c f r:Int):Rat)=1;grind)
 let(s1,p,q):=hs;apply XS;grind;intro i ae ag;erw[WC]at ag;rw[YV];have l:=mu h.nodup (WK ag) (Vaprbq.steady c (f::r));rw[WK ae,aa8]at l;rw[<-l];refine k9 (p _) (h8 _ _) ?_;rw[q _ (Ze ag),hC _ (by nofun),n]
def Sm:bt:=λK ad vs H Q _=>∃W N c,∃i j:Nat,vs=[.ref W.a,.int i,.int j]/\bQ K ad W N H c/\aY c/\i<c.size/\∀ai,aw H ai->Q (.int (bq (rowOf c i) j)) ai
def Sn:bz Z Z.Em 1 Sm:=by
 refine d0 ["walk","origin","goal","number","share"] Z.Em (λF nd I b=>(az (aT (gm (nq rfl rfl) (by rfl) Z.nu PyProof.Rows.Boot.«sum» (av (dz rfl nd (cH K (aQ K (aC K (ah 0)) (ah 1))) (cM (own:=[("number",3),("share",4)]) (by kernel_rfl)) (λ_ _ _ _ _=>ee (n:=2) rfl rfl (b0 (b3 3 nd) (b0 (b3 4 nd) ec))) (λ_ _ _ _ _=>(oY (b1 (fF rfl b) (ah 3) (ah 2) (bZ _)))) λ_ _ _ _ _=>ck (ah 4))))))) λH vs Q E h=>?_;let(W,N,c,i,j,rfl,v,x,af,k):=h;have st:=v.ej;have J:=ze x af;let(L,M,r,y,t,z,rs,rfl,u,d):=l8 st af;rfl';refine P6 (by decide) hj (rowOf c i).length (λm=>((rowOf c i)[m]?.getD (0,0)).1==j) (λm=>((rowOf c i)[m]?.getD (0,0)).2) (by rw[WJ];lia) λO A=>?_;rfl';refine b_ Z.hc v (by simp) (λ_=>rfl) (aZ (au.of r) t ?_);refine A z rs ((rowOf c i).map λp=>(V.int (p.1:Int),V.int p.2)) H (au.of u) d.1 (nN d) (λm p aj P a s q=>?_) (λm p G R a S s q=>?_) λD ai us T B ag o=>?_;rw[WG]at a;cases g:(rowOf c i)[m]? with
 |none=>nofun
 |some p=>
  rw[g]at a q;cases a;rfl';have e:decide ((p.1:Int)=(j:Int))=(p.1==j):=by rw[Xu,decide_eq_true_eq,YB];lia
  rw[e];exact q
 rw[WG]at a;cases g:(rowOf c i)[m]? with
 |none=>nofun
 |some p=>rw[g]at a q;cases a;rfl';exact q _ G (aw.refl _) rfl
 have e:((List.range (rowOf c i).length).filter λm=>((rowOf c i)[m]?.getD (0,0)).1==j).map (λm=>((rowOf c i)[m]?.getD (0,0)).2)=((rowOf c i).filter λp=>p.1==j).map (·.2):=by
  have C:(List.range (rowOf c i).length).map (λm=>(rowOf c i)[m]?.getD (0,0))=rowOf c i:=by have:=uU (0,(0:Int)) (rowOf c i) id;rw[YE.mpr λ_ _=>rfl,Y_]at this;exact this
  have w:=abt (f:=λm=>(rowOf c i)[m]?.getD (0,0)) (p:=λp:Nat×Int=>p.1==j) (l:=List.range (rowOf c i).length);rw[C]at w;erw[w,Xg];rfl
 rw[e]at o;have o:=ew (f:=V.int) o;subst o;refine{D,_,rfl,au.of ag,?_};rw[<-nI];calc k ai B
def So:bt:=λK ad vs H Q _=>∃W N c a f r,∃g:Nat,vs=[.ref W.a,a,.int g]/\bQ K ad W N H c/\aY c/\l3 H a (f::r)/\mc c f r/\g∈r/\∀v ai,aw H ai->cZ ai v ((r++[c.size]).map (eU c f g))->Q v ai
def sq(a:aY c)(h:mc c f r):r.length+1<=24:=by have:=eA (f::r) (List.range c.size) h.nodup λx b=>WN.mpr (h.lt x b);rw[W0,WL]at this;calc W1 this a.bj
def Sp:bz Z Z.El 2 So:=by
 refine bX ["walk","states","goal","factors","state"] Z.El λH vs Q E X nd b d h=>{_,(zx0 (kr (i:=3) rfl nd rfl rfl (ks rfl rfl rfl rfl) (cH K (ah 1)) (cM (own:=[("state",4)]) (by kernel_rfl)) (λ_ _ _ _ _=>b3 4 nd) (λ_ _ _ _ _=>dh) λ_ _ _ _ _=>ck (q_ q' (a5 (Sn Z) X (aD (ah 0) (aD (ah 4) (av (ah 2))))))) (ax (wR (ah 3) (J1 aau aaX PySem.F.type_list_index (M4 rfl) (ah 1) (av (ah 2))) (k_get rfl) (aQ K (aC K (ah 0)) (ah 2)) m1 set_list) (az (aT (bl dY (jz (jF rfl) (ah 3) (gO aJ) rj) (bN (av (q_ q' (aQ K (ah 3) aJ))))))))),zi0 λ_ _=>?_};clear nd b d;let(W,N,c,y0,f,r,g,rfl,w,O,z0,cl,A,k):=h;let(Y,rfl,b):=z0;rfl';have st:=w.ej;have len:=sq O cl;have B:=cl.lt g (WE _ A);have P:=W3.mp cl.nodup;have VE:g≠f:=λe=>P.1 (by nofun);rfl';refine er hj ((f::r).map λs=> -bq (rowOf c s) g) (by rw[WC,WL,WJ];lia) λQd hd=>?_;rfl';refine hd Y _ H (au.of b) (by nofun) (λj x z G dI l hz cg q=>?_) λF H1 us y6 s1 ae C=>?_;rw[WG]at l hz;cases D:(f::r)[j]? with
 |none=>nofun
 |some s=>
  rw[D]at l hz;cases l;cases hz;rfl';refine{W,N,c,s,g,rfl,w.mono cg,O,cl.lt s (WS D),λai n=>?_};rfl'
  first
   |exact q _ ai n rfl
   |exact{_,rfl,q _ ai n rfl}
 rfl';have C:=ew C;subst C;let(p,v):=Zm.mp A;have I:bM (f::r)=((f::r).map λj:Nat=>(j:Int)).map V.int:=by rw[Xg];rfl
 rfl';refine{.inl {rfl,_,au.of (s1 _ _ b)},?_};refine{(f::r).map λj:Nat=>j,g,p+1,rfl,by rw[<-I];calc au.of (s1 _ _ b),?_,λm hm=>?_,?_};nofun;intro e;rw[WG]at e;cases J:(f::r)[m]? with
 |none=>rw[J]at e;cases e
 |some y=>
  rw[J]at e;have Sq:y=g:=by have o:(y:Int)=(g:Int):=Xw e;lia
  have ag:(f::r)[p+1]? =some g:=v;let(eJ,cx):=WH.mp J;let(bp,o):=WH.mp ag;have:=(Zz cl.nodup).mp (cx.trans (Sq.trans o.symm));nofun
 have t:(((f::r).map λs=> -bq (rowOf c s) g).map V.int)[p+1]? =some (.int (-bq (rowOf c g) g)):=by rw[WU,WU,YQ,WG,WG,v];rfl
 refine yZ (au.of ae) t ?_;refine b_ Z.hc (w.mono s1) (by simp) (λ_=>rfl) (aZ (au.of (s1 _ _ (kU st))) (kV B) ?_);rfl';have L:p+1<(((f::r).map λs=> -bq (rowOf c s) g).map V.int).length:=(WH.mp t).1;refine iA ae L ?_;have u:(((f::r).map λs=> -bq (rowOf c s) g).map V.int).set (p+1) (.int (-bq (rowOf c g) g+aM c g))=V.int (-bq (rowOf c f) g)::(r.map (eU c f g)).map V.int:=by rw[WU,WU,List.set_cons_succ];congr 1;apply XS;simp;intro i h6 R;rw[aa7];erw[YV];simp at R;have M:=cl.lt r[i] (WE _ (Ze R));unfold eU;rw[WM (Xz M)];let(bp,o):=WH.mp v;split;rename_i e;subst e;rw[o,WO rfl];congr 1;lia;rename_i e;rw[WM λz=>e ((Zz P.2).mp (o.trans z))];congr 1;nofun
 rw[u];have eI:H F=none:=y6;have n:aw H (upd H1 F (.lst (V.int (-bq (rowOf c f) g)::(r.map (eU c f g)).map V.int))):=hW s1 eI;have a:upd H1 F (.lst (V.int (-bq (rowOf c f) g)::(r.map (eU c f g)).map V.int)) F=_:=aO;generalize upd H1 F (.lst (V.int (-bq (rowOf c f) g)::(r.map (eU c f g)).map V.int))=G2 at n a;refine{_,au.of a,λlM bU kR S T=>?_};rw[uY]at T;refine aZ (au.of (S _ _ a)) rfl ?_;rfl';refine{by rw[WJ];decide,λi_ dj jg U bP=>?_};refine{_,_,U _ _ T,bP,by rw[WC,WC,WJ];show _+1<=_;lia,λl1 dZ hg s5 cV=>k _ dZ (((n.trans S).trans U).trans s5) {l1,rfl,?_}};rw[cV,Xp,Xp];have yO:eU c f g c.size=bq (rowOf c f) g:=by unfold eU;rw[WO rfl]
 show _=some (bH.lst (_++[V.int (eU c f g c.size)]));rw[yO,Int.neg_neg]
def Sr:bt:=λK ad vs H Q _=>∃W N c a f r,vs=[.ref W.a,a]/\bQ K ad W N H c/\aY c/\l3 H a (f::r)/\mc c f r/\∀v ai,aw H ai->cv (eT K) ai v (Vaprbq.steady c (f::r))->Q v ai
def Ss:bz Z Z.Ek 3 Sr:=by
 refine bX ["walk","states","result","flows","parts","whole","goal","flow","state","part"] Z.Ek λH vs Q E L nd p u h=>{_,(zx0 (aV 2 nd (a5 (F2 Z) L (av (dz rfl nd (cH K (jz (jF rfl) (ah 1) (gO aJ) rj)) (cM (own:=[("goal",6)]) (by kernel_rfl)) (λ_ _ _ _ _=>b3 6 nd) (λ_ _ _ _ _=>dh) λ_ _ _ _ _=>ck (a5 (Sp Z) L (aD (ah 0) (aD (ah 1) (av (ah 6))))))))) (zx0 (aV 3 nd (zf0 (bl dY (bN (av (aQ K (ah 2) aJ))) (aQ K (ah 2) aJ)))) (zx0 (kr (i:=4) rfl nd rfl rfl (ks rfl rfl rfl rfl) (lJ rfl Z.lR (aD (ah 3) (av (ah 1)))) (cM (own:=[("flow",7),("state",8)]) (by kernel_rfl)) (λ_ _ _ _ _=>ee (K:=K) (n:=2) rfl rfl (b0 (b3 7 nd) (b0 (b3 8 nd) ec))) (λ_ _ _ _ _=>dh) λ_ _ _ _ _=>ck (bl dH (ah 7) (aQ K (aC K (ah 0)) (ah 8)))) (zx0 (fg (i:=5) nd rfl (Or.inr rfl) (gm (nq (K:=K) rfl rfl) (by rfl) Z.nu PyProof.Rows.Boot.«sum» (av (ah 4)))) (az (aT (dz rfl nd (cH K (ah 4)) (cM (own:=[("part",9)]) (by kernel_rfl)) (λ_ _ _ _ _=>b3 9 nd) (λ_ _ _ _ _=>dh) λ_ _ _ _ _=>ck (a5 (jJ Z) L (aD (ah 9) (av (ah 5))))))))))),zi0 λ_ _=>?_};clear nd p u;let(W,N,c,y0,f,r,rfl,M,b,z0,cl,k):=h;let(X,rfl,p):=z0;rfl';have st:=M.ej;have len:=sq b cl;have c0:=W3.mp cl.nodup;have eq:=Hd b cl;let(O,VF,_):=zx b cl;let(jD,bn,zz):=zy b cl;rw[vm b cl]at k;rfl';refine er (K:=K) kI (r.map λg=>(r++[c.size]).map (eU c f g)) (by rw[WC,WJ];lia) λQd hd=>?_;rfl';refine{_,au.of p,λSu h1 iH Y h0=>?_};have ev:bM (f::r)=V.int (f:Int)::bM r:=rfl;rw[WU,uY]at h0;refine hd Su _ h1 (au.of h0) (by grind) (λj x z G dI a hz I q=>?_) λD H1 us fH s1 ae r1=>?_;rw[WG]at a hz;cases o:r[j]? with
 |none=>rw[o]at a;cases a
 |some g=>rw[o]at a hz;cases a;cases hz;have v:=Y.trans I;rfl';exact{W,N,c,_,f,r,g,rfl,M.mono v,b,{X,rfl,v _ _ p},cl,WS o,q}
 refine{_,_,r,c.size,_,_,rfl,eq,⟨D,us,rfl,ae,r1⟩,λt l ai s2 bW hl=>?_};rfl';have P:=(Y.trans s1).trans s2;rfl';refine d_ (j:=1) bW rfl ?_;refine{by rw[WJ];decide,λlM bU kR R bR=>?_};refine d_ (j:=0) (d9 R bW) rfl ?_;refine{_,_,bR,R _ _ hl,by rw[WC,WC,WJ];show 1+_<=_;lia,λi_ dj jg s4 bP=>?_};rfl';have S:[V.int (bY r (stM c f))]++(r.map (cW r c.size (stM c f))).map V.int=((f::r).map (flow c f r)).map V.int:=by rw[WU];show V.int (bY r (stM c f))::(r.map (cW r c.size (stM c f))).map V.int=_;congr 1;unfold flow;rw[WO rfl];congr 1;refine Xs λs hs=>?_;unfold flow;rw[WM λe=>c0.1 (by rw[<-e];calc hs)]
 rw[S]at bP;have d:=(P.trans R).trans s4;refine uT (K:=K) (by decide) hj (f::r).length (λ_=>true) (λm=>part c f r ((f::r)[m]?.getD 0)) (by rw[WL,WJ];lia) λd3 a9=>?_;rfl';refine a9 i_ X _ _ dj (au.of bP) (au.of (d _ _ p)) (by rw[WC,WC]) (WC _) (λm x y aj pE _ _ _ q=>q) (λm x y G dI a w _ I q=>?_) λuR dZ FW hg s5 cV J=>?_;rw[WG,WG]at a;rw[WG]at w;cases T:(f::r)[m]? with
 |none=>rw[T]at w;cases w
 |some s=>rw[T]at a w q;cases a;cases w;have A:=WS T;have B:=cl.lt s A;have C:=d.trans I;rfl';exact b_ Z.hc (M.mono C) (by simp) (λ_=>rfl) (aZ (au.of (C _ _ (kU st))) (kV B) {(yR (O s A).2).mul (mb b B).2,q _ G (aw.refl _) rfl})
 rfl';rw[uU 0 (f::r) (part c f r)]at J;rfl';have J:=ew (f:=V.int) J;subst J;rfl';refine{uR,_,rfl,au.of cV,?_};rfl';rw[<-nI];show _;rfl';refine er (K:=K) (gX (K:=K)) ((f::r).map λs=>frac (part c f r s) (ek c f r).toNat) (by rw[WC,WL,WJ];lia) λdI he=>?_;rfl';refine he uR _ dZ (au.of cV) (by rw[WC,WC,WC]) (λj x z G Qf a hz I q=>?_) λyL d7 U rT c1 dy r6=>k _ d7 ((d.trans s5).trans c1) ⟨yL,U,rfl,dy,r6⟩;rw[WG,WG]at a;rw[WG]at hz;cases o:(f::r)[j]? with
 |none=>rw[o]at a;cases a
 |some s=>
  rw[o]at a hz;cases a;cases hz;rfl';refine{_,_,rfl,bn,zz,λln gp dG r7=>q _ gp dG ?_};have sj:(((ek c f r).toNat:Nat):Int)=ek c f r:=by lia
  have cx:=rX (part c f r s) (ek c f r).toNat (by nofun);rw[sj]at cx;have F:gu K gp ln (low (part c f r s) (ek c f r)):=r7;rw[cx]at F;calc F
def Sv(h:bQ K ad W N H c)(r:cv (eT K) H v l):cv (eT K) (cut W H) v l:=by let(a,xs,rfl,ae,ag):=r;let(g,b,_):=h.ins;let(k1,d,_):=h.come;let(k2,f,_):=h.steps;let(k3,i,_):=h.steady;refine{a,xs,rfl,jS ae {λe=>?_,λe=>?_,λe=>?_,λe=>?_},ag.imp λx z r=>n0 h r};nofun;nofun;nofun;nofun
def Sw(h:bQ K ad W N H c)(ak:H W.steady=some (.b7 kvs)){j:Nat}(w:(Vaprbq.classes c)[j]? =some l)(r:cv (eT K) (cut W H) v (Vaprbq.steady c l)):bQ K ad W N (upd H W.steady (.b7 (putK kvs (Sum.inl j) v))) c:=by
 let(g,d,f):=h.ins;let(k1,x,k,a):=h.come;let(k2,m,n,b):=h.steps;let(k3,q,s,t):=h.steady;rw[q]at ak;cases ak;have e:=l7 (H:=H) (p:=W.steady) (o:=.b7 (putK kvs (Sum.inl j) v)) (.inr (.inr (.inr rfl)));have y:W.a≠W.steady:=λz=>by rw[z,q]at d;cases d
 have A:W.steps≠W.steady:=λz=>by rw[z,q]at m;cases m
 refine{{g,by rwa[aK y],by rwa[e]},by rw[e];calc h.st,{k1,by rwa[aK h.ne],k,by rwa[e]},{k2,by rwa[aK A],n,by rwa[e]},{_,aO,vc s (WH.mp w).1,λi u D B C=>?_},h.ne};rw[jA]at B;grind
def pV(h:iz K ad W G c):∃xs,G W.classes=some (.lst xs)/\xs.length=(Vaprbq.classes c).length/\∀(k:Nat)l,(Vaprbq.classes c)[k]? =some l->∃v,xs[k]? =some v/\l4 ad G v (l,Vaprbq.closed c l):=by let(a,xs,e,ae,ag):=h.classes;cases e;refine{xs,ae,by rw[ag.1];unfold l6;rw[WC],λk l hl=>?_};calc ag.get (by unfold l6;erw[WG,hl];rfl)
def zA(a:aY c):(Vaprbq.classes c).length<=24:=W1 (Gr c c.size) a.bj
def Sx:bt:=λK ad vs H Q _=>∃W N c,∃k:Nat,∃l,vs=[.ref W.a,.int k]/\bQ K ad W N H c/\aY c/\(Vaprbq.classes c)[k]? =some l/\∀v ai,Kept K ad W N c H ai->cv (eT K) (cut W ai) v (Vaprbq.steady c l)->Q v ai
def Hf:bz Z Z.Ej 4 Sx:=by
 refine d0 ["walk","number"] Z.Ej (λy nd o w=>(ax (bB (iZ (m_ o (ah 1) (aC K (ah 0))) rfl) (az (m' o (aC K (ah 0)) (ah 1) (a5 (Ss Z) y (aD (ah 0) (av (aC K (aQ K (aC K (ah 0)) (ah 1)))))) rfl)) bI) (az (aT (ku o (aC K (ah 0)) (ah 1) λ_ _=>rfl))))) λH vs Q E h=>?_;let(W,N,c,j,l,rfl,d,p,hl,k):=h;have z:=zA p;show eL ?uQ ?nG ?pC ?rR ?rS;generalize A: ?nG=B;have b:∀ai,Kept K ad W N c H ai->(∀kvs,ai W.steady=some (.b7 kvs)->∃v,cr kvs (Sum.inl j)=some v)->B {nx:=λ_ aj=>Q .bb aj,rt:=Q} [some (V.ref W.a),some (V.int j)] ai:=by intro ai ak m;simp only[<-A];rfl';let(kvs,ae,ag,x):=ak.at_.steady;let(v,m):=m kvs ae;refine b_ Z.hc ak.at_ (by simp) (λ_=>rfl) {W.steady,rfl,v,?_,k v ai ak (x j v l m hl)};rw[<-m];exact dA.k (k:=Sum.inl j) ae
 rfl';let(kvs,ae,ag,x):=d.steady;refine b_ Z.hc d (by simp) (λ_=>rfl) {W.steady,rfl,_,dA.k (k:=Sum.inl j) ae,?_};cases e:cr kvs (Sum.inl j)with|some v=>refine b H (Kept.refl d) λi h'=>?_;rw[ae]at h';cases h';calc⟨v,e⟩|none=>rw[WO (show none.isSome=false from rfl)];let(xs,q,C,s):=pV d.ej;let(I,t,a,ao,D,rfl,F,u):=s j l hl;let(f,r,rfl,cl,_):=pU p (WS hl);refine b_ Z.hc d (by simp) (λ_=>rfl) (aZ (au.of q) t ?_);refine l_ Z.hc F ?_;refine{W,N,c,_,f,r,rfl,d,p,⟨D,rfl,u⟩,cl,λv ai n G=>?_};have g:=d.mono n;refine b_ Z.hc g (by simp) (λ_=>rfl) ?_;have J:=u3 ag;refine{W.steady,rfl,_,hS.k (k:=Sum.inl j) (n _ _ ae) (by rw[WJ];lia),b _ {?_,Sw g (n _ _ ae) hl (Sv g G)} λi h'=>?_};rw[l7 (.inr (.inr (.inr rfl)))];calc eH n;rw[aO]at h';cases h';exact{v,by rw[jA,WO rfl]}
def g0(c:Chain)(i m j:Nat):Frac:=match((Vaprbq.classes c).take m).find? (λl=>l.contains j&&Vaprbq.closed c l)with|some l=>(Vaprbq.come c i j).mul (valueIn l (Vaprbq.steady c l) j)|none=>VaprbBase.Frac.zero
def Sy c i:(List.range c.size).map (g0 c i (Vaprbq.classes c).length)=Vaprbq.long c i:=by refine Xs λj _=>?_;unfold g0;grind
def Hg(hl:(Vaprbq.classes c)[m]? =some l)(h:(l.contains j&&Vaprbq.closed c l)=false):g0 c i (m+1) j=g0 c i m j:=by unfold g0;erw[eh hl,List.find?_append];nofun
def Sz(b:aY c)(hl:(Vaprbq.classes c)[m]? =some l)(d:j∈l)(h:Vaprbq.closed c l=true):g0 c i (m+1) j=(Vaprbq.come c i j).mul (valueIn l (Vaprbq.steady c l) j):=by
 unfold g0;erw[eh hl,List.find?_append];have a:=cJ b;cases e:((Vaprbq.classes c).take m).find? (λl=>l.contains j&&Vaprbq.closed c l)with|some x=>have ae:=Zx (YF e);have ag:=abf e;rw[Xd,WX]at ag;have f:=zc a ae ag.1;have g:=zc a (WS hl) d;nofun|none=>nofun
def SA(a:aY c)(af:i<c.size)(f:j<c.size):Small (Vaprbq.come c i j).num/\Small ((Vaprbq.come c i j).den):=by
 have co:=l' a f;let(t,h,b,d):=pQ a af f;have g:0<(c' c j).2.toNat:=by have:=co.pos;nofun
 have e:(((c' c j).2.toNat))=(c' c j).2:=by lia
 have k:=W7.mpr co.pos;have:=G1 (fU (cJ a) i j) g (by rw[b];show aI c i j=_;grind);rw[<-this];calc uX g (kZ d) (by rw[e];calc kZ co.small)
def SD:bt:=λK ad vs H Q _=>∃W N c,∃i:Nat,vs=[.ref W.a,.int i]/\bQ K ad W N H c/\aY c/\i<c.size/\∀v ai,Kept K ad W N c H ai->cv (eT K) (cut W ai) v (Vaprbq.long c i)->Q v ai
def SE{R:V->α->Prop}{g g':Nat->α}(h:bw R us ((List.range n).map g))(hs:s<n)(d:R v (g' s))(c:∀j,j<n->j≠s->g' j=g j):bw R (us.set s v) ((List.range n).map g'):=by
 have hl:us.length=n:=by erw[h.1,WC,W0]
 refine{by nofun,λi x y a b=>?_};have af:i<n:=by grind
 rw[WG,fv af]at b;cases b;by_cases e:i=s;nofun;rw[X6 (XE e)]at a;show R x (g' i);rw[c i af e];calc h.2 i x (g i) a (by nofun)
def SF{R:V->α->Prop}{x:α}(h:R v x):bw R (List.replicate n v) ((List.range n).map λ_=>x):=by refine{by simp,λi a b c d=>?_};grind
def n1(r:eT K (cut W H) v q):eT K H v q:=gX _ _ _ _ c3 r
def SG:bz Z Z.En 7 SD:=by
 refine bX ["walk","origin","shares","number","found","chance","state","share"] Z.En λH vs Q E bF nd bg h2 h=>{_,(zx0 (aV 2 nd (bl dH (bN (av (ja Z.hn rfl))) (cm K Z.cf (aC K (ah 0))))) (zx0 (dS Xe rfl (ky rfl Z.kL (av (aC K (ah 0)))) (ee (K:=K) (n:=2) rfl rfl (b0 (cG 3 nd) (b0 (cG 4 nd) ec))) (az (bB (b9 (aC K (ah 4))) (zx0 (aV 5 nd (ck (a5 (zr Z) bF (aD (ah 0) (aD (ah 1) (av (aQ K (aC K (ah 4)) aJ))))))) (az (dS Xe rfl (lJ rfl Z.lR (aD (aC K (ah 4)) (av (ck (a5 (Hf Z) bF (aD (ah 0) (av (ah 3)))))))) (ee (K:=K) (n:=2) rfl rfl (b0 (cG 6 nd) (b0 (cG 7 nd) ec))) (az (kh (ck (a5 (Qa Z) bF (aD (ah 5) (av (ah 7))))) (kg (ah 2) (ah 6) set_list)))))) bI))) (az (aT (ah 2))))),zi0 λ_ _=>?_};clear nd bg h2;let(W,N,c,i,rfl,e6,v,af,k):=h;rfl';have cF:=cJ v;have jf:c.size<=24:=v.bj;let(pL,fT,zB,pG,_):=l8 e6.ej af;let(xs,Hh,SH,SI):=pV e6.st;rfl';refine{by rw[WJ];decide,λnQ h1 iH s0 h0=>?_};refine b_ Z.hc (e6.mono s0) (by simp) (λ_=>rfl) (cw (au.of (s0 _ _ zB)) ?_);rw[pG];refine{_,h0,by nofun,by rw[WJ];lia,λF H1 eR s1 ae=>?_};rfl';rw[XM]at ae;rfl';have eI:H F=none:=by
  cases e:H F with
  |none=>rfl
  |some o=>rw[s0 _ _ e]at eR;cases eR
 have O:=s0.trans s1;have u_:aw H (del H1 F):=gw eI O;refine ui λQd hd=>?_;rfl';refine b_ Z.hc (e6.mono O) (by simp) (λ_=>rfl) ?_;generalize eS:(λ(m:Nat)(aa:L2.St)(G:am)=>bQ K ad W N (del G F) c/\aw (cut W H) (cut W (del G F))/\(∃us,G F=some (.lst us)/\bw (eT K (cut W (del G F))) us ((List.range c.size).map (g0 c i m)))/\∃cc cU d8 P R,aa=[some (V.ref W.a),some (V.int (i:Int)),some (V.ref F),cc,cU,d8,P,R])=Pv;have cls:∀{G:am},aw (cut W H) (cut W (del G F))->G W.classes=some (.lst xs):=λs=>bo _ _ (c3 _ _ (s _ _ Hh));refine hd W.classes xs H1 (au.of (O _ _ (c3 _ _ Hh))) (pa (xs:=xs) Pv (λm aa G p=>?_) ?_ (λm aa G x nR I p nY=>?_) λaa G p=>?_);rw[<-eS]at p;calc au.of (cls p.2.1);rw[<-eS];calc{e6.mono u_,eH u_,{_,ae,SF {_,rfl,Z.hn.2 _}},none,none,none,none,none,rfl};rw[<-eS]at p;let(S,zC,z0,cc,cU,d8,P,R,rfl):=p;let(us,gV,T):=z0;have hm:m<(Vaprbq.classes c).length:=by have:=(WH.mp I).1;nofun
 obtain⟨l,hl⟩:∃l,(Vaprbq.classes c)[m]? =some l:={_,WK hm};let(GK,sk,a,ao,pF,rfl,df,SJ):=SI m l hl;rw[I]at sk;cases sk;have jQ:=c2 (D:=F) nY;have Hi:=S.mono jQ;have w:=zC.trans (eH (W:=W) jQ);have sg:=nY _ _ gV;have J:=T.imp λx z r=>gX _ _ _ _ (eH (W:=W) jQ) r;have U:=w _ _ df;have L:=w _ _ SJ;let(f,r,rfl,cl,hu,Hj):=pU v (WS hl);rfl';refine vb Z.hc (bo _ _ (c3 _ _ U)) ?_;rfl';cases A:Vaprbq.closed c (f::r)with
 |false=>rw[<-eS];refine{Hi,w,{us,sg,?_},_,_,_,_,_,rfl};rw[show(List.range c.size).map (g0 c i (m+1))=(List.range c.size).map (g0 c i m)from Xs λj _=>Hg hl (by rw[A,abC])];calc J
 |true=>
  rw[WO rfl];rfl';have q:=cl.lt f (WD ..);have SK:c4 (ar c) f:=by rw[Hj]at A;exact(oe cF q).mp A
  refine{F,us,sg,?_};refine l_ Z.hc (c3 _ _ U) (aZ (j:=0) (au.of (c3 _ _ L)) rfl ?_);refine{W,N,c,i,f,rfl,Hi,v,af,q,λGC ai k2 r2 Hk=>?_};rfl';have SL:=k2.same _ _ U;have SM:=k2.same _ _ L;rfl';refine uj λd3 a9=>?_;rfl';have SN:∀{b:Addr}{o:bH},ai b=some o->upd ai F (.lst us) b=some o:=λ{b o}h=>by rw[aK λe=>by rw[e,Hk]at h;cases h];exact h
  refine l_ Z.hc (SN (c3 _ _ SL)) ?_;refine{F,us,aO,?_};rw[cj,f5 Hk];refine{W,N,c,m,_,rfl,k2.at_,v,hl,λln bU k3 r3 B=>?_};let(gg,ys,rfl,Hl,Hm):=r3;have Hn:∀{b:Addr}{o:bH},bU b=some o->upd bU F (.lst us) b=some o:=λ{b o}h=>by rw[aK λe=>by rw[e,B]at h;cases h];exact h
  have M:=k3.same _ _ SM;have SO:=gX _ _ _ _ k3.same r2;have SP:ys.length=(f::r).length:=by rw[Hm.1,vm v cl,WC]
  let(jD,bn,zz):=zy v cl;generalize u:(λ(t:Nat)(aa:L2.St)(G:am)=>bQ K ad W N (del G F) c/\aw (cut W bU) (cut W (del G F))/\(∃us,G F=some (.lst us)/\bw (eT K (cut W (del G F))) us ((List.range c.size).map λj=>if j∈(f::r).take t then g0 c i (m+1) j else g0 c i m j))/\∃P R,aa=[some (V.ref W.a),some (V.int (i:Int)),some (V.ref F),some (V.int (m:Int)),some (V.ref a),some GC,P,R])=gb;refine a9 pF gg (bM (f::r)) ys _ (au.of (Hn (c3 _ _ M))) (au.of (Hn (c3 _ _ Hl))) (uf (xs:=bM (f::r)) (ys:=ys) gb (by rw[WC];calc SP.symm) (λt aa G p=>?_) ?_ (λt aa G x y vn I aN p Ho=>?_) λaa G p=>?_);rw[<-u]at p;calc{au.of (bo _ _ (c3 _ _ (p.2.1 _ _ M))),au.of (bo _ _ (c3 _ _ (p.2.1 _ _ Hl)))};rw[<-u];refine{by rw[cj,f5 B];calc k3.at_,by rw[cj,f5 B];calc aw.refl _,{us,aO,?_},_,_,rfl};rw[cj,f5 B];erw[aaL,Z8,abu];calc J.imp λx z r=>gX _ _ _ _ (k2.same.trans k3.same) r;rw[<-u]at p;let(zD,fW,z1,P,R,rfl):=p;let(X,Y,d):=z1;have rA:=c2 (D:=F) Ho;rw[WG]at I;cases bW:(f::r)[t]? with
  |none=>rw[bW]at I;cases I
  |some s=>
   rw[bW]at I;cases I;have C:=WS bW;have vf:=cl.lt s C;have lN:(Vaprbq.steady c (f::r))[t]? =some (frac (part c f r s) (ek c f r).toNat):=by rw[vm v cl,WG,bW];rfl
   have SQ:=Hm.2 t y _ aN lN;have zE:=fW.trans (eH (W:=W) rA);have sj:(((ek c f r).toNat:Nat):Int)=ek c f r:=by lia
   let(fp,eB):=SA v af q;let(o8,o9):=uX (t:=part c f r s) (b:=(ek c f r).toNat) (by nofun) {YI (jD s C).2 (Xi (by decide) (by decide))} (by rw[sj];calc zz);rfl';refine{F,X,Ho _ _ Y,?_};refine{_,_,Vaprbq.come c i f,frac (part c f r s) (ek c f r).toNat,rfl,n1 (gX _ _ _ _ zE SO),n1 (gX _ _ _ _ zE SQ),fU cF i f,h8 _ _,fp,eB,o8,o9,λnE dZ s5 r5 zF=>?_};refine iA aO ?_ ?_;rw[d.1,WC,W0];calc vf;rw[gk,<-u];have tJ:=(zD.mono rA).mono s5;refine{by rw[cj,f5 zF];calc tJ,by rw[cj,f5 zF];calc zE.trans (eH s5),{_,aO,?_},_,_,rfl};rw[cj,f5 zF];refine SE (d.imp λx z r=>gX _ _ _ _ (eH (W:=W) (rA.trans s5)) r) vf ?_ λj a' SR=>?_;rw[WO (by rw[eh bW];calc WZ _ (WQ.mpr rfl)),Sz v hl C A];have cx:Vaprbq.come c i s=Vaprbq.come c i f:=Iw cF af q SK (((dk cF q).mp (by rw[<-Hj];calc C)).1);have dn:valueIn (f::r) (Vaprbq.steady c (f::r)) s=frac (part c f r s) (ek c f r).toNat:=by rw[mu cl.nodup bW,lN];rfl
   rw[cx,dn];calc n0 tJ r5;rw[eh bW];erw[Xc,WQ,SR,or_false]
  have bn:gb (f::r).length aa G:=by
   have:(bM (f::r)).length=(f::r).length:=by simp
   rw[<-this];exact p
  rw[<-u,XO]at bn;let(zD,fW,z2,P,R,rfl):=bn;let(X,Y,d):=z2;rw[<-eS];refine{zD,((w.trans k2.same).trans k3.same).trans fW,{X,Y,?_},_,_,_,_,_,rfl};rw[show(List.range c.size).map (g0 c i (m+1))=(List.range c.size).map λj=>if j∈f::r then g0 c i (m+1) j else g0 c i m j from Xs λj _=>by by_cases e:j∈f::r;rw[WO e];rw[WM e];exact Hg hl (by rw[show(f::r).contains j=false by rw[<-Xj,WX];calc e,abB])];exact d
 rfl';rw[<-eS,SH,Sy]at p;let(S,zC,z3,cc,cU,d8,P,R,rfl):=p;let(us,gV,T):=z3;rfl';have SS:=S.mono (bo (D:=F));refine k _ G {zC.trans (eH bo),SS} {F,us,rfl,?_,T.imp λx z r=>gX _ _ _ _ (eH bo) r};let(g,bR,_):=S.ins;let(k1,bP,_):=S.come;let(k2,cV,_):=S.steps;let(k3,dy,_):=S.steady;calc jS gV {λe=>(by rw[<-e,fG]at bR;cases bR),λe=>(by rw[<-e,fG]at bP;cases bP),λe=>(by rw[<-e,fG]at cV;cases cV),λe=>(by rw[<-e,fG]at dy;cases dy)}
structure zG(P:aX)(l:List Nat)(f:Nat)(p:Nat->Option Nat)(ws:List Nat)(u:Option Nat)(done:List (Nat×Int))(g:Nat):Prop where
 root:p f=some 0
 keys:∀s d,p s=some d->s∈l/\((s=f/\d=0)\/∃q∈l,∃e,p q=some e/\0<P q s/\d=e+1)
 wait:∀w∈ws,(p w).isSome=true
 now:∀w,u=some w->(p w).isSome=true/\∀q∈done,q.1∈l->(p q.1).isSome=true
 all:∀s,(p s).isSome=true->s∈ws\/u=some s\/∀v∈l,0<P s v->(p v).isSome=true
 nd:ws.Nodup
 off:∀w,u=some w->w∉ws
 gcd:∀d:Nat,d∣g↔(∀s v ds sr,p s=some ds->s∉ws->u≠some s->v∈l->0<P s v->p v=some sr->(d:Int)∣(ds:Int)+1-sr)/\(∀w Hp,u=some w->p w=some Hp->∀q∈done,∀sr,q.1∈l->p q.1=some sr->(d:Int)∣(Hp:Int)+1-sr)
def e9(p:Nat->Option Nat)(g d:Nat):Nat->Option Nat:=λj=>if j=g then some d else p j
def jW(n:Nat)(p:Nat->Option Nat):Nat:=((List.range n).filter λj=> !(p j).isSome).length
def SU(a:g<n)(h:p g=none):jW n (e9 p g d)+1<=jW n p:=by
 refine eA (g::(List.range n).filter λj=> !(e9 p g d j).isSome) _ (W3.mpr {λz=>?_,Xb _ (nodup_range n)}) λx aB=>?_;have:=(WY.mp z).2;unfold e9 at this;nofun;rcases WW.mp aB with e|aB;nofun;let(ae,ag):=WY.mp aB;unfold e9 at ag;grind
def SV n p:jW n p<=n:=by unfold jW;grind
def SW(m:aY c)(k:f<c.size)(n:gi c f)(h:zG (ar c) (classOf c f) f p [] none [] g):Vaprbq.period c (classOf c f)=g:=by
 have l:=cJ m;have j:=λv i=>sY l k v i (λx=>(p x).isSome=true) (by rw[h.root];rfl) λa t b y o e=>by
  rcases h.all a o with z|z|z;nofun;nofun;nofun
 have get:∀v∈classOf c f,p v=some ((p v).getD 0):=λv i=>by
  cases e:p v with|none=>grind|some d=>rfl
 refine Ad l k n (p:=λv=>(p v).getD 0) (by rw[h.root];rfl) (λv i=>?_) λd=>?_;rcases(h.keys v _ (get v i)).2 with z|⟨q,A,e,B,C,D⟩;grind;grind;rw[h.gcd d];constructor;intro z u E v i e;grind;refine λz=>{λs v ds F ae _ _ i e ag=>?_,λw G r=>by cases r};have:=z s (h.keys s ds ae).1 v i e;grind
def vo(n:Nat)(kvs:List (Key×V))(p:Nat->Option Nat):Prop:=jT n kvs/\∀s:Nat,cr kvs (Sum.inl s)=(p s).map λd:Nat=>V.int d
def Hq(h:vo n kvs p){g d:Nat}(a:g<n):vo n (putK kvs (Sum.inl g) (.int d)) (e9 p g d):=by refine{vc h.1 a,λs=>?_};rw[jA];unfold e9;by_cases e:s=g;nofun;rw[WM λz=>e (by grind),WM e];calc h.2 s
def SX:bt:=λK ad vs H Q _=>∃v u c f,vs=[v,u]/\pI K H v (eG c)/\aY c/\f<c.size/\gi c f/\l3 H u (classOf c f)/\∀ai,aw H ai->Q (.int (Vaprbq.period c (classOf c f))) ai
def SY:bz Z Z.Ei 2 SX:=by
 refine d0 ["rows","states","lengths","waiting","divisor","number","goal","share"] Z.Ei (λbF nd bg h2=>(zx0 (aV 2 nd (K0 (KZ (aQ K (ah 1) aJ) aJ KY) rfl rfl (List.cons_ne_nil _ _) (by grind))) (zx0 (aV 3 nd (bN (av (aQ K (ah 1) aJ)))) (zx0 (aV 4 nd aJ) (zx0 (hK Xe (b1 hN (cm K Z.cf (ah 3)) aJ (bZ _)) (zx0 (aV 5 nd (C7 (ah 3))) (az (dS Xe rfl (cH K (aQ K (ah 0) (ah 5))) (ee (K:=K) (n:=2) rfl rfl (b0 (cG 6 nd) (b0 (cG 7 nd) ec))) (az (bB (iZ (BS bg (ah 6) (ah 2)) rfl) (az (aV 4 nd (a5 (nw Z) bF (aD (ah 4) (av (bl lF (zf0 (bl dY (ku bg (ah 2) (ah 5) λ_ _=>rfl) aJ)) (ku bg (ah 2) (ah 6) λ_ _=>rfl))))))) (az (bB (b1 (k_in (K:=K) rfl) (ah 6) (ah 1) rfl) (zx0 (m' bg (ah 2) (ah 6) (bl dY (ku bg (ah 2) (ah 5) λ_ _=>rfl) aJ) rfl) (az (dv (gS (ah 3) (av (ah 6)))))) bI)))))))) (az (aT (ah 4)))))))) λH vs Q E h=>zi0 λ_ _=>?_;let(v,u,c,f,rfl,z0,dJ,hf,hu,z1,k):=h;let(e4,rs,rfl,l9,nU):=z0;let(as,rfl,has):=z1;rfl';have cF:=cJ dJ;have jf:c.size<=24:=dJ.bj;have X:=Gl dJ;have lN:(bM (classOf c f))[0]? =some (.int (f:Int)):=by
  unfold gi at hu;cases e:classOf c f with
  |nil=>grind
  |cons x r=>grind
 have SZ:f∈classOf c f:=(dk cF hf).mpr {.here f,.here f};rfl';intro L vp;have S0:aw H (upd H L (.b7 [])):=fi vp;refine aZ (j:=0) (au.of (S0 _ _ has)) lN ?_;refine{aO,[(Sum.inl (f:Int),.int 0)],rfl,by grind,?_};rfl';rw[gk];rfl';have zH:aw H (upd H L (.b7 (o5 [] [(Sum.inl (f:Int),V.int 0)]))):=fi vp;refine aZ (j:=0) (au.of (zH _ _ has)) lN ?_;refine{by rw[WJ];decide,λB ai et s2 ag=>?_};rfl';have vq:B≠L:=λe=>by rw[e,aO]at et;cases et
 have jV:H B=none:=by
  cases e:H B with
  |none=>rfl
  |some o=>rw[zH _ _ e]at et;cases et
 have S1:=s2 L _ aO;have y8:aw H (del (del ai L) B):=by
  intro b o e;have cp:b≠L:=λz=>by rw[z,vp]at e;cases e
  have b4:b≠B:=λz=>by rw[z,jV]at e;cases e
  rw[bf b4,bf cp];exact s2 _ _ (zH _ _ e)
 generalize eS:(λ(m:Nat)(aa:L2.St)(G:am)=>∃p R kvs,∃g:Nat,∃cc cU d8,aa=[some (V.ref e4),some (V.ref as),some (V.ref L),some (V.ref B),some (V.int (g:Int)),cc,cU,d8]/\aw H (del (del G L) B)/\G L=some (.b7 kvs)/\vo c.size kvs p/\G B=some (.lst (bM R))/\zG (ar c) (classOf c f) f p R none [] g/\m=2*jW c.size p+R.length/\m<=100)=Pv;refine kJ Pv (λaa G=>∃g:Nat,∃cc cU d8,aa=[some (V.ref e4),some (V.ref as),some (V.ref L),some (V.ref B),some (V.int (g:Int)),cc,cU,d8]/\aw H G/\Vaprbq.period c (classOf c f)=g) (2*jW c.size (e9 (λ_=>none) f 0)+1) ?_ ?_ ?_;rw[<-eS];refine{e9 (λ_=>none) f 0,[f],_,0,none,none,none,rfl,y8,S1,Hq (kvs:=[]) (p:=λ_=>none) {{Yd,λq Y=>by cases Y},λs=>rfl} hf,ag,{by unfold e9;rw[WO rfl],λs d hs=>?_,λw hw=>?_,λw hw=>(by grind),λs hs=>?_,by simp,λw hw=>(by grind),λd=>{λ_=>{λs v ds O hs c0=>?_,λw U hw=>(by grind)},λ_=>abQ d}},rfl,by have:=SV c.size (e9 (λ_=>none) f 0);lia};unfold e9 at hs;split at hs;rename_i e;cases hs;rw[e];calc{SZ,.inl ⟨rfl,rfl⟩};cases hs;rw[WQ.mp hw];unfold e9;rw[WO rfl];rfl;unfold e9 at hs;split at hs;rename_i e;calc .inl (by rw[e];calc WQ.mpr rfl);cases hs;unfold e9 at hs;split at hs;rename_i e;calc absurd (by rw[e];calc WQ.mpr rfl) c0;cases hs;rintro aa G ⟨g,cc,cU,d8,rfl,cg,e⟩;rfl';rw[<-e];calc k G cg;intro m aa G e6 C ct hY;rw[<-eS]at e6;let(p,R,kvs,g,cc,cU,d8,rfl,cg,S2,S3,Hr,iB,rfl,Hs):=e6;rfl';refine cw (au.of Hr) ?_;symm;rw[WC];rcases abq R with vr|⟨R,u,vr⟩
 subst vr;calc hY _ {g,cc,cU,d8,rfl,cg.trans hx,SW dJ hf hu iB};rw[abr]at vr;subst vr;rw[show decide ((0:Int)<(((R++[u]).length:Nat):Int))=true from Xm (by rw[WI];show(0:Int)<((R.length+1:Nat):Int);lia)];refine ct _ ?_;rfl';have zI:=iB.wait u (WZ _ (WQ.mpr rfl));obtain⟨P,Ht⟩:∃P,p u=some P:=by
  cases e:p u with
  |none=>rw[e]at zI;cases zI
  |some d=>exact⟨d,rfl⟩
 have sd:u<c.size:=iK (iB.keys u P Ht).1;rfl';refine{_,.int (u:Int),Hr,?_,?_};rw[WC,WI,nS];show(_++[V.int (u:Int)])[R.length+1-1]? =_;rw[X0 (by rw[WC];lia),WC,Nat.add_sub_cancel,Z0];rfl;rfl';have mo:(bM (R++[u])).dropLast=bM R:=by rw[nS,abA]
 rw[mo];obtain⟨r,bF⟩:∃r,(eG c)[u]? =some r:={_,WK (by rw[X.len];calc sd)};let(fT,y9,nO,se,rfl,sf,nV):=nU.get bF;refine iw λd3 Y=>?_;rfl';have Hu:∀{G G2:am},aw H (del (del G L) B)->(∀b,b≠L->b≠B->G2 b=G b)->aw H (del (del G2 L) B):=by
  intro G G2 s t b w e;have b4:b≠B:=λz=>by rw[z,jV]at e;cases e
  have cp:b≠L:=λz=>by rw[z,vp]at e;cases e
  have:=s _ _ e;rw[bf b4,bf cp]at this⊢;rw[t b cp b4];exact this
 have vt:=Hu (G2:=upd G B (.lst (bM R))) cg λb _ b4=>aK b4;have Hv:upd G B (.lst (bM R)) L=some (.b7 kvs):=by rw[aK (XE vq)];exact S2
 have sh:upd G B (.lst (bM R)) B=some (.lst (bM R)):=aO;generalize upd G B (.lst (bM R))=jR at vt Hv sh;refine aZ (au.of ((vt.trans hx) _ _ l9)) y9 ?_;generalize W:(λ(i:Nat)(aa:L2.St)(G:am)=>∃bn N I,∃g2:Nat,∃cU d8,aa=[some (V.ref e4),some (V.ref as),some (V.ref L),some (V.ref B),some (V.int (g2:Int)),some (V.int (u:Int)),cU,d8]/\aw H (del (del G L) B)/\G L=some (.b7 I)/\vo c.size I bn/\G B=some (.lst (bM N))/\bn u=some P/\zG (ar c) (classOf c f) f bn N (some u) (r.take i) g2/\2*jW c.size bn+N.length<=2*jW c.size p+R.length)=gb;refine Y nO se jR (au.of ((vt.trans hx) _ _ sf)) (uV (xs:=se) (r.map λp=>(V.int (p.1:Int),V.int p.2)) gb (by rw[WC];calc nV.1) (λi aa G p=>?_) ?_ (λi aa G x aB pp=>?_) λaa G p=>?_);rw[<-W]at p;let(bn,N,I,g2,cU,d8,rfl,s2,_):=p;have S:=s2.trans hx;calc{au.of (S _ _ sf),nN (nV.imp λv z q=>hv _ _ _ _ S q)};rw[<-W];refine{p,R,kvs,g,cU,d8,rfl,vt,Hv,S3,sh,Ht,{iB.root,iB.keys,λw hw=>iB.wait w (Xa _ hw),λw hw=>?_,λs hs=>?_,(Yr.mp iB.nd).1,λw hw=>?_,λd=>?_},W2 _};cases hw;exact{zI,λq Y=>by cases Y};rcases iB.all s hs with z|z|z
 rcases Xc.mp z with z|z
 calc .inl z;calc .inr (.inl (by rw[WQ.mp z]));cases z;calc .inr (.inr z);cases hw;calc λz=>(Yr.mp iB.nd).2.2 u z u (WQ.mpr rfl) rfl;rw[iB.gcd d];constructor;intro z;refine{λs v ds O ae ag bR=>z.1 s v ds O ae (λy=>?_) (by simp),λw U hw ae q Y=>by cases Y};rcases Xc.mp y with y|y
 calc ag y;calc bR (by rw[WQ.mp y]);intro z;refine{λs v ds O ae ag _=>z.1 s v ds O ae (λy=>ag (Xa _ y)) λe=>ag (WZ _ ?_),λw U hw=>by cases hw};cases e;calc WQ.mpr rfl;rw[<-W]at pp;let(bn,N,I,g2,cU,d8,rfl,s2,T,J,pW,A,a,hm):=pp;rw[WG]at aB;cases vu:r[i]? with
 |none=>rw[vu]at aB;cases aB
 |some q=>
  rw[vu]at aB;cases aB;have Hw:=WS vu;have Hx:=X.lt u r bF q Hw;have e7:r.take (i+1)=r.take i++[q]:=eh vu;have S4:=(X.nT u r bF q.1).mpr ⟨q,Hw,rfl⟩;rfl';refine{_,dA.k (k:=Sum.inl (q.1:Int)) T,?_};rw[J.2 q.1];have Hy:dA G L (V.int (u:Int)) (some (.int (P:Int))):=by have:=dA.k (k:=Sum.inl (u:Int)) T;rw[J.2 u,A]at this;exact this
  cases M:bn q.1 with
  |some O=>
   rw[WO (show((some O).map λd:Nat=>V.int (d:Int)).isSome=true from rfl)];rfl';have S5:dA G L (V.int (q.1:Int)) (some (.int (O:Int))):=by have:=dA.k (k:=Sum.inl (q.1:Int)) T;rw[J.2 q.1,M]at this;exact this
   refine{_,Hy,?_};rfl';refine{_,S5,?_};rfl';refine{_,_,rfl,?_};rw[<-W];refine{bn,N,I,Int.gcd (g2:Int) ((P:Int)+1-(O:Int)),some (V.int (q.1:Int)),some (V.int q.2),rfl,s2,T,J,pW,A,{a.root,a.keys,a.wait,λw hw=>?_,a.all,a.nd,a.off,λd=>?_},hm};let(a1,a2):=a.now w hw;refine{a1,λy aN l=>?_};rw[e7]at aN;rcases Xc.mp aN with aN|aN
   calc a2 y aN l;rw[WQ.mp aN,M];rfl;have cx:d∣Int.gcd (g2:Int) ((P:Int)+1-(O:Int))↔d∣g2/\(d:Int)∣(P:Int)+1-(O:Int):=by rw[XK];exact aan
   rw[cx,a.gcd d,e7];constructor;intro z;refine{z.1.1,λw U hw ae y aN f9 l D=>?_};rcases Xc.mp aN with aN|aN
   calc z.1.2 w U hw ae y aN f9 l D;rw[WQ.mp aN,M]at D;cases D;cases hw;rw[A]at ae;cases ae;calc z.2;intro z;calc{{z.1,λw U hw ae y aN f9 l D=>z.2 w U hw ae y (Xa _ aN) f9 l D},z.2 u P rfl A q (WZ _ (WQ.mpr rfl)) O (a.keys q.1 O M).1 M}
  |none=>
   rw[WM (show¬((none:Option Nat).map λd:Nat=>V.int (d:Int)).isSome=true from Bool.noConfusion)];refine yY (au.of ((s2.trans hx) _ _ has)) ?_;rfl';cases su:(classOf c f).contains q.1 with
   |false=>
    have vv:q.1∉classOf c f:=λz=>by rw[WX.mpr z]at su;cases su
    rw[WM (by decide),<-W];refine{bn,N,I,g2,some (V.int (q.1:Int)),some (V.int q.2),rfl,s2,T,J,pW,A,{a.root,a.keys,a.wait,λw hw=>?_,a.all,a.nd,a.off,λd=>?_},hm};let(a1,a2):=a.now w hw;refine{a1,λy aN l=>?_};rw[e7]at aN;rcases Xc.mp aN with aN|aN
    calc a2 y aN l;rw[WQ.mp aN]at l;calc absurd l vv;rw[a.gcd d,e7];constructor;intro z;refine{z.1,λw U hw ae y aN f9 l D=>?_};rcases Xc.mp aN with aN|aN
    calc z.2 w U hw ae y aN f9 l D;rw[WQ.mp aN]at l;calc absurd l vv;intro z;calc{z.1,λw U hw ae y aN f9 l D=>z.2 w U hw ae y (Xa _ aN) f9 l D}
   |true=>
    have vv:q.1∈classOf c f:=WX.mp su;rw[WO rfl];rfl';refine{_,Hy,?_};rfl';have Q3:=u3 J.1;refine{_,hS.k (k:=Sum.inl (q.1:Int)) T (by rw[WJ];lia),?_};rfl';refine{{_,by rw[aK vq];calc pW},_,by rw[aK vq];calc pW,by rw[WC,WJ];rw[WI]at Hs;lia,?_};have vw:u≠q.1:=λe=>by rw[<-e,A]at M;cases M
    have F:∀{s d},bn s=some d->s≠q.1:=λh e=>by rw[e,M]at h;cases h
    have S:∀s,s≠q.1->e9 bn q.1 (P+1) s=bn s:=λs h=>by unfold e9;rw[WM h]
    have s4:e9 bn q.1 (P+1) q.1=some (P+1):=by unfold e9;rw[WO rfl]
    have vx:∀s,(bn s).isSome=true->(e9 bn q.1 (P+1) s).isSome=true:=λs h=>by unfold e9;split;rfl;exact h
    have S6:=(a.keys u P A).1;have succ:∀{s ds v},bn s=some ds->s∉N->some u≠some s->v∈classOf c f->0<ar c s v->v≠q.1:=by
     intro s ds v ae ag bR bP cV e;rcases a.all s (by rw[ae];rfl)with z|z|z
     calc ag z;calc bR z;have:=z v bP cV;rw[e,M]at this;cases this
    rw[<-W];refine{e9 bn q.1 (P+1),N++[q.1],putK I (Sum.inl (q.1:Int)) (.int ((P+1:Nat):Int)),g2,some (V.int (q.1:Int)),some (V.int q.2),rfl,Hu s2 λb cp b4=>by rw[aK b4,aK cp],?_,Hq J Hx,by rw[aO,nS],by rw[S u vw];calc A,{by rw[S f (F a.root)];calc a.root,λs d hs=>?_,λw hw=>?_,λw hw=>?_,λs hs=>?_,?_,λw hw=>?_,λd=>?_},?_};rw[aK (XE vq),aO];rfl;by_cases e:s=q.1;rw[e,s4]at hs;cases hs;rw[e];exact{vv,.inr {u,S6,P,by rw[S u vw];calc A,S4,rfl}};rw[S s e]at hs;let(a1,a2):=a.keys s d hs;refine{a1,?_};rcases a2 with a2|⟨x,aB,iG,cx,dn,cS⟩
    calc .inl a2;exact .inr {x,aB,iG,by rw[S x (F cx)];calc cx,dn,cS};rcases Xc.mp hw with hw|hw
    calc vx w (a.wait w hw);rw[WQ.mp hw,s4];rfl;let(a1,a2):=a.now w hw;refine{vx w a1,λy aN l=>?_};rw[e7]at aN;rcases Xc.mp aN with aN|aN
    calc vx _ (a2 y aN l);rw[WQ.mp aN,s4];rfl;by_cases e:s=q.1;exact .inl (by rw[e];calc WZ _ (WQ.mpr rfl));rw[S s e]at hs;rcases a.all s hs with z|z|z
    calc .inl (Xa _ z);calc .inr (.inl z);calc .inr (.inr λv eu e=>vx v (z v eu e));rw[Yr];refine{a.nd,by simp,λx aB y aN e=>?_};rw[WQ.mp aN]at e;have:=a.wait x aB;rw[e,M]at this;cases this;cases hw;intro z;rcases Xc.mp z with z|z
    calc a.off u rfl z;calc vw (WQ.mp z);rw[a.gcd d,e7];constructor;intro z;refine{λs v ds O ae ag bR bP cV dy=>?_,λw U hw ae y aN f9 l D=>?_};have cx:s≠q.1:=λe=>ag (by rw[e];calc WZ _ (WQ.mpr rfl));rw[S s cx]at ae;have kz:s∉N:=λy=>ag (Xa _ y);rw[S v (succ ae kz bR bP cV)]at dy;calc z.1 s v ds O ae kz bR bP cV dy;cases hw;rw[S u vw,A]at ae;cases ae;rcases Xc.mp aN with aN|aN
    have cx:y.1≠q.1:=λe=>by have:=(a.now u rfl).2 y aN l;rw[e,M]at this;cases this
    rw[S y.1 cx]at D;calc z.2 u P rfl A y aN f9 l D;rw[WQ.mp aN,s4]at D;cases D;exact{0,by lia};intro z;refine{λs v ds O ae ag bR bP cV dy=>?_,λw U hw ae y aN f9 l D=>?_};refine z.1 s v ds O (by rw[S s (F ae)];calc ae) (λy=>?_) bR bP cV (by rw[S v (F dy)];calc dy);rcases Xc.mp y with y|y
    calc ag y;calc F ae (WQ.mp y);exact z.2 w U hw (by rw[S w (F ae)];calc ae) y (Xa _ aN) f9 l (by rw[S y.1 (F D)];calc D);have:=SU (d:=P+1) Hx M;rw[WI,XA];lia
 rw[<-W,nV.1,XO]at p;let(bn,N,I,g2,cU,d8,rfl,s2,T,J,pW,A,a,hm):=p;refine{2*jW c.size bn+N.length,by rw[WI,XA];lia,?_};rw[<-eS];refine{bn,N,I,g2,_,_,_,rfl,s2,T,J,pW,{a.root,a.keys,a.wait,λw hw=>(by cases hw),λs hs=>?_,a.nd,λw hw=>(by cases hw),λd=>?_},rfl,by rw[WI]at Hs;lia};rcases a.all s hs with z|z|z
 calc .inl z;cases z;refine .inr (.inr λv eu e=>?_);let(q,Y,dn):=(X.nT u r bF v).mp e;have:=(a.now u rfl).2 q Y (by rw[dn];calc eu);rw[dn]at this;calc this;calc .inr (.inr z);rw[a.gcd d];constructor;intro z;refine{λs v ds O ae ag _ bP cV dy=>?_,λw U hw=>by cases hw};by_cases e:u=s;subst e;let(q,Y,dn):=(X.nT u r bF v).mp cV;calc z.2 u ds rfl ae q Y O (by rw[dn];calc bP) (by rw[dn];calc dy);calc z.1 s v ds O ae ag (λy=>e (Xw y)) bP cV dy;intro z;refine{λs v ds O ae ag _ bP cV dy=>z.1 s v ds O ae ag (by simp) bP cV dy,λw U hw ae q Y O su M=>?_};cases hw;calc z.1 u q.1 U O ae (a.off u rfl) (by simp) su ((X.nT u r bF q.1).mpr ⟨q,Y,rfl⟩) M
theorem Hz i:∀l f,dO c tops (l++[i]) f=Nat.lcm (dO c tops l f) ((aM c i).natAbs/Nat.gcd (tops i).natAbs (aM c i).natAbs)|[],f=>rfl|x::r,f=>Hz i r _
theorem HA i:∀l b,hH c (l++[i]) b=Nat.lcm (hH c l b) (aM c i).natAbs|[],b=>rfl|x::r,b=>HA i r _
def sv(b:aY c)(f:m<=c.size)tops:0<dO c tops (List.range m) 1/\dO c tops (List.range m) 1<=2^6552/\0<hH c (List.range m) 1/\hH c (List.range m) 1<=2^6552:=by let(a,_,_,d,e):=oF (tops:=tops) (List.range m) 1 1 (λi af=>(e0 b (by grind)).1) (by lia) (by lia) (Yf 1);have ae:=qW (List.range m) 1 (λi af=>e0 b (by grind)) (by lia);rw[W0,ZW]at ae;have ag:=W1 ae (mR (by have:c.size<=24:=b.bj;lia));calc{a,W1 (X8 e d) ag,e,ag}
def S7:bt:=λK ad vs H Q _=>∃W N c v tops,vs=[.ref W.a,v]/\bQ K ad W N H c/\aY c/\cZ H v ((List.range c.size).map tops)/\∀ai,aw H ai->Q (.int (eK c tops)) ai
def S8:bz Z Z.Ev 3 S7:=by
 refine bX ["walk","tops","factor","top","total"] Z.Ev λH vs Q E u nd F b h=>{_,(ax (aV 2 nd aJ) (zx0 (dS Xe rfl (lJ rfl Z.lR (aD (ah 1) (av (aC K (ah 0))))) (ee rfl rfl (b0 (cG 3 nd) (b0 (cG 4 nd) ec))) (az (aV 2 nd (a5 (yc Z) u (aD (ah 2) (av (bl jb (ah 4) (a5 (nw Z) u (aD (ah 3) (av (ah 4))))))))))) (az (aT (ah 2))))),zi0 λ_ _=>?_};clear nd F b;let(W,N,c,v,tops,rfl,w,l,z0,k):=h;let(z,rfl,d):=z0;rfl';have I:c.size<=24:=l.bj;have st:=w.ej;have f:=kU st;rfl';refine uj λO J=>?_;rfl';refine b_ Z.hc w (by simp) (λ_=>rfl) ?_;generalize g:(λm aa G=>aw H G/\∃o q,aa=[some (V.ref W.a),some (V.ref z),some (V.int (dO c tops (List.range m) 1)),o,q])=Pv;refine J z W.tots _ _ H (au.of d) (au.of f) (uf (xs:=((List.range c.size).map tops).map V.int) (ys:=((List.range c.size).map (aM c)).map V.int) Pv (by simp) (λm aa G p=>?_) ?_ (λm aa G x y P r A p s=>?_) λaa G p=>?_);rw[<-g]at p;calc{au.of (p.1 _ _ d),au.of (p.1 _ _ f)};rw[<-g];calc{aw.refl _,none,none,rfl};rw[<-g]at p;let(t,o,q,rfl):=p;have i:m<c.size:=by have:=(WH.mp r).1;simpa using this
 rw[kX tops i]at r;rw[kV i]at A;cases r;cases A;let(R,L,_):=sv l (Yg i) tops;have B:=(e0 l i).1;have C:=(mb l i).2;have M:0<Int.gcd (tops m) (aM c m):=ya B;have j:Int.gcd (tops m) (aM c m)<=(aM c m).natAbs:=yb B;have a:aM c m/(Int.gcd (tops m) (aM c m))=(((aM c m).natAbs/Nat.gcd (tops m).natAbs (aM c m).natAbs:Nat)):=by
  have e:(((aM c m).natAbs))=aM c m:=by lia
  erw[Z9,e];rfl
 have D:0<(aM c m).natAbs/Nat.gcd (tops m).natAbs (aM c m).natAbs:=Y' j M;rfl';refine{_,_,rfl,?_};rfl';refine{{by nofun,(Small.le C (by rw[W8];calc j)).log},_,_,rfl,by nofun,?_,jP L (by decide),?_,?_};rw[a];lia;rw[a];calc C.le (by rw[W8];calc Ya ..);simp only[<-g];refine{t.trans s,some (V.int (tops m)),some (V.int (aM c m)),?_};rw[Y1,Hz,a];rfl;rfl';have bn:Pv c.size aa G:=by
  have:(((List.range c.size).map tops).map V.int).length=c.size:=by simp
  rw[<-this];exact p
 rw[<-g]at bn;let(t,o,q,rfl):=bn;rfl';calc k G t
def jh(c:Chain)(tops:Nat->Int)(i:Nat):Int:=tops i*(eK c tops)/aM c i
def movedTo(c:Chain)(tops:Nat->Int)(m j:Nat):Int:=bV ((List.range m).map λi=>jh c tops i*bq (rowOf c i) j)
def S9 c tops(m j):movedTo c tops (m+1) j=movedTo c tops m j+jh c tops m*bq (rowOf c m) j:=by unfold movedTo;erw[Y1,Xp,u5];show _+(_+0)=_;nofun
def S_:bt:=λK ad vs H Q _=>∃W N c v tops,vs=[.ref W.a,v,.int (eK c tops)]/\bQ K ad W N H c/\aY c/\cZ H v ((List.range c.size).map tops)/\(∀j,j<c.size->(tops j).natAbs<=2^655200)/\∀a ai,aw H ai->cZ ai a ((List.range c.size).map (moved c tops))->Q a ai
def S':bz Z Z.Ew 1 S_:=by
 refine bX ["walk","tops","factor","made","number","top","part","goal","share"] Z.Ew λH vs Q E bF nd bg A h=>{_,(zx0 (aV 3 nd (zf0 (bl dH (bN (av aJ)) (cm K Z.cf (ah 1))))) (zx0 (dS Xe rfl (ky rfl Z.kL (av (ah 1))) (ee rfl rfl (b0 (cG 4 nd) (b0 (cG 5 nd) ec))) (ax (aV 6 nd (bl jb (bl dH (ah 5) (ah 2)) (aQ K (aC K (ah 0)) (ah 4)))) (az (dS Xe rfl (cH K (aQ K (aC K (ah 0)) (ah 4))) (ee rfl rfl (b0 (cG 7 nd) (b0 (cG 8 nd) ec))) (az (wR (ah 3) (ah 7) (k_get rfl) (bl dH (ah 6) (ah 8)) m1 set_list)))))) (az (aT (ah 3))))),zi0 λ_ _=>?_};clear nd bg A;let(W,N,c,v,tops,rfl,O,B,z0,bD,k):=h;let(P,rfl,r):=z0;rfl';have jf:c.size<=24:=B.bj;have st:=O.ej;have R:=kU st;let(f1,M,_):=sv B (W2 c.size) tops;have M:eK c tops<=2^6552:=M;rfl';refine{by rw[WJ];decide,λnQ h1 iH S h0=>?_};refine cw (au.of (S _ _ r)) ?_;rw[WC,WC,W0];refine{_,h0,by nofun,by rw[WJ];lia,λF H1 eR s1 ae=>?_};rfl';rw[sb]at ae;rfl';have eI:H F=none:=by
  cases e:H F with
  |none=>rfl
  |some o=>rw[S _ _ e]at eR;cases eR
 have C:=S.trans s1;refine ui λQd hd=>?_;rfl';generalize D:(λ(m:Nat)(aa:L2.St)(G:am)=>aw H (del G F)/\G F=some (.lst (((List.range c.size).map (movedTo c tops m)).map V.int))/\∃T U X s u,aa=[some (V.ref W.a),some (V.ref P),some (V.int (eK c tops:Int)),some (V.ref F),T,U,X,s,u])=Pv;refine hd P _ H1 (au.of (C _ _ r)) (pa (xs:=((List.range c.size).map tops).map V.int) Pv (λm aa G p=>?_) ?_ (λm aa G x nR d p I=>?_) λaa G p=>?_);rw[<-D]at p;calc au.of ((p.1.trans bo) _ _ r);rw[<-D];calc{gw eI C,ae,none,none,none,none,none,rfl};rw[<-D]at p;let(Y,gV,T,U,X,s,u,rfl):=p;have l:m<c.size:=by have:=(WH.mp d).1;simpa using this
 rw[kX tops l]at d;cases d;have J:aw H (del nR F):=Y.trans (c2 I);have a:=J.trans bo;have Ta:=I _ _ gV;have gq:=(e0 B l).1;have nP:=(mb B l).2;let(pL,fT,zB,pG,y2,nO,rs,rfl,L,w):=l8 st l;have Tb:(jh c tops m).natAbs<2^700000:=by unfold jh;have ae:(tops m*(eK c tops:Int)/aM c m).natAbs<=(tops m*(eK c tops:Int)).natAbs:=Int.natAbs_ediv_le_natAbs _ _;refine Xn ae ?_;rw[XW,W8];refine Xn (X3 (bD m l) M) ?_;rw[<-aax];exact Xi (by decide) (by decide)
 rfl';refine{ur (m:=655201) (n:=6553) (Xn (bD m l) (Xi (by decide) (by decide))) (by rw[W8];calc Xn M (Xi (by decide) (by decide))) (by decide),?_};refine b_ Z.hc (O.mono a) (by simp) (λ_=>rfl) (aZ (au.of (a _ _ R)) (kV l) ?_);refine{⟨gq,nP.log⟩,?_};refine iw λdI he=>?_;rfl';refine b_ Z.hc (O.mono a) (by simp) (λ_=>rfl) (aZ (au.of (a _ _ zB)) y2 ?_);generalize b:(λ(t:Nat)(aa:L2.St)(G:am)=>aw H (del G F)/\G F=some (.lst (((List.range c.size).map λj=>movedTo c tops m j+jh c tops m*bq ((rowOf c m).take t) j).map V.int))/\∃s u,aa=[some (V.ref W.a),some (V.ref P),some (V.int (eK c tops:Int)),some (V.ref F),some (V.int (m:Int)),some (V.int (tops m)),some (V.int (jh c tops m)),s,u])=gb;refine he nO rs nR (au.of (a _ _ L)) (uV (xs:=rs) ((rowOf c m).map λp=>(V.int (p.1:Int),V.int p.2)) gb (by rw[WC];calc w.1) (λt aa G p=>?_) ?_ (λt aa G x d p=>?_) λaa G p=>?_);rw[<-b]at p;have y:=p.1.trans bo;calc{au.of (y _ _ L),nN (w.imp λv z q=>hv _ _ _ _ y q)};rw[<-b];refine{J,?_,_,_,rfl};rw[Ta];congr 3;refine Xs λj _=>?_;show _=_+_*0;rw[Int.mul_zero,Z2];rw[<-b]at p;let(y,f,s,u,rfl):=p;rw[WG]at d;cases i:(rowOf c m)[t]? with
 |none=>rw[i]at d;cases d
 |some p=>
  rw[i]at d;cases d;let(cp,b4,ih,Tc):=G4 B l (WS i);rfl';refine yZ (au.of f) (kX _ cp) ?_;rfl';refine{ur (m:=700000) (n:=8999) Tb Tc.lt (by decide),?_};refine iA f (by simp;calc cp) ?_;have e7:(rowOf c m).take (t+1)=(rowOf c m).take t++[p]:=eh i;have cS:=set_range (n:=c.size) (g:=p.1) (λj=>movedTo c tops m j+jh c tops m*bq ((rowOf c m).take t) j) (λj=>movedTo c tops m j+jh c tops m*bq ((rowOf c m).take (t+1)) j) cp λj a'=>by by_cases e:j=p.1;rw[WO e,e];rw[WM e,e7,sa,WM (XE e),Z2]
  have lu:movedTo c tops m p.1+jh c tops m*bq ((rowOf c m).take (t+1)) p.1=movedTo c tops m p.1+jh c tops m*bq ((rowOf c m).take t) p.1+jh c tops m*p.2:=by rw[e7,sa,WO rfl,Int.mul_add,Int.add_assoc]
  erw[lu]at cS;simp only[cS,<-b];exact{by rw[cj];calc y,aO,_,_,rfl}
 rw[<-b,w.1,XO]at p;let(y,f,s,u,rfl):=p;rw[<-D];refine{y,?_,_,_,_,_,_,rfl};rw[f];congr 3;calc Xs λj _=>(S9 c tops m j).symm;rfl';have bn:Pv c.size aa G:=by
  have:(((List.range c.size).map tops).map V.int).length=c.size:=by simp
  rw[<-this];exact p
 rw[<-D]at bn;let(Y,gV,T,U,X,s,u,rfl):=bn;rfl';calc k _ G (Y.trans bo) ⟨F,rfl,gV⟩
def Td:bt:=λK ad vs H Q _=>∃W N c,∃i n:Nat,vs=[.ref W.a,.int i,.int n]/\bQ K ad W N H c/\aY c/\i<c.size/\n<=100/\∀v ai,aw H ai->cv (eT K) ai v (sharesAfter c n (Vaprbq.at_ c i))->Q v ai
def Te:bz Z Z.Eu 4 Td:=by
 refine d0 ["walk","origin","count","tops","bottom","done","factor","base","total","top"] Z.Eu (λA nd bg h2=>(zx0 (aV 3 nd (bl dH (bN (av aJ)) (cm K Z.cf (aC K (ah 0))))) (ax (kh aJ (kg (ah 3) (ah 1) set_list)) (ax (fg (i:=4) nd rfl (Or.inr rfl) aJ) (ax (dS Xe rfl (m2 rfl Z.nt (av (ah 2))) (cG 5 nd) (ax (aV 6 nd (a5 (S8 Z) A (aD (ah 0) (av (ah 3))))) (ax (aV 3 nd (a5 (S' Z) A (aD (ah 0) (aD (ah 3) (av (ah 6)))))) (az (fg (i:=4) nd rfl (Or.inr rfl) (bl dH (ah 4) (ah 6))))))) (ax (fg (i:=7) nd rfl (Or.inr rfl) aJ) (ax (dS Xe rfl (cH K (aC K (ah 0))) (cG 8 nd) (az (fg (i:=7) nd rfl (Or.inr rfl) (a5 (yc Z) A (aD (ah 7) (av (ah 8))))))) (az (aT (dz rfl nd (cH K (ah 3)) (cM (own:=[("top",9)]) (by kernel_rfl)) (λ_ _ _ _ _=>b3 9 nd) (λ_ _ _ _ _=>dh) λ_ _ _ _ _=>ck (a5 (NZ Z) A (aD (ah 9) (aD (ah 4) (av (ah 7))))))))))))))) λH vs Q E h=>zi0 λ_ _=>?_;let(W,N,c,i,n,rfl,s,b,af,c0,k):=h;rfl';have jf:c.size<=24:=b.bj;have st:=s.ej;have t:=kU st;let(pL,fT,L,M,_):=l8 st af;rfl';refine{by rw[WJ];decide,λnQ h1 iH B h0=>?_};refine b_ Z.hc (s.mono B) (by simp) (λ_=>rfl) (cw (au.of (B _ _ L)) ?_);rw[M];refine{_,h0,by lia,by rw[WJ];lia,λF H1 eR s1 ae=>?_};rfl';rw[XM,sb]at ae;rfl';refine iA ae (by simp;calc af) ?_;have cx:=set_range (n:=c.size) (g:=i) (λ_=>0) (λj=>if j=i then 1 else 0) af λj o=>by by_cases e:j=i;rw[WO e,WO e,WO rfl];rw[WM e,WM e]
 erw[Z4]at cx;rw[cx];have eI:H F=none:=by
  cases e:H F with
  |none=>rfl
  |some u=>rw[B _ _ e]at eR;cases eR
 have s2:aw H (upd H1 F (.lst (((List.range c.size).map λj=>if j=i then(1:Int)else 0).map V.int))):=hW (B.trans s1) eI;have v:upd H1 F (.lst (((List.range c.size).map λj=>if j=i then(1:Int)else 0).map V.int)) F=_:=aO;generalize upd H1 F (.lst (((List.range c.size).map λj=>if j=i then(1:Int)else 0).map V.int))=G2 at s2 v;refine uk λd3 a9=>?_;rfl';generalize C:(λ(m:Nat)(aa:L2.St)(G:am)=>aw H G/\∃tops,∃a:Nat,∃D I J,jr c i m tops a/\cZ G D ((List.range c.size).map tops)/\aa=[some (V.ref W.a),some (V.int (i:Int)),some (V.int (n:Int)),some D,some (V.int (a:Int)),I,J,none,none,none])=Pv;refine a9 n G2 (by lia) (ug (n:=n) Pv ?_ (λm aa G w p=>?_) λaa G p=>?_);rw[<-C];calc{s2,_,1,_,none,none,Ay i,⟨F,rfl,v⟩,rfl};rw[<-C]at p;let(l,tops,a,D,I,J,T,y,rfl):=p;let(f1,O,_):=sv b (W2 c.size) tops;have O:eK c tops<=2^6552:=O;have P:=IF b T (by lia);have R:∀j,j<c.size->(tops j).natAbs<=2^655200:=λj o=>by have a1:=T.nonneg j o;have a2:=AA b af T o;lia
 rfl';refine{W,N,c,_,tops,rfl,s.mono l,b,y,λbU S=>?_};rfl';refine{W,N,c,_,tops,rfl,s.mono (l.trans S),b,kI _ _ _ _ S y,R,λv4 dj U X=>?_};rfl';refine{ur (m:=655201) (n:=6553) (Xn P (Xi (by decide) (by decide))) (Xn O (Xi (by decide) (by decide))) (by decide),?_};rw[<-C];refine{(l.trans S).trans U,_,_,_,some (V.int (m:Int)),some (V.int (eK c tops:Int)),Az b T,X,?_};rw[Y0];rw[<-C]at p;let(l,tops,a,D,I,J,T,z0,rfl):=p;let(at_,rfl,Y):=z0;rfl';refine iw λQd hd=>?_;rfl';refine b_ Z.hc (s.mono l) (by simp) (λ_=>rfl) ?_;generalize d:(λ(m:Nat)(aa:L2.St)(G2:am)=>G2=G/\∃d8,aa=[some (V.ref W.a),some (V.int (i:Int)),some (V.int (n:Int)),some (V.ref at_),some (V.int (a:Int)),I,J,some (V.int (hH c (List.range m) 1:Int)),d8,none])=gb;refine hd W.tots _ G (au.of (l _ _ t)) (jG (xs:=((List.range c.size).map (aM c)).map V.int) gb (λm aa G2 p=>?_) ?_ (λm aa G2 x r p=>?_) λaa G2 p=>?_);rw[<-d]at p;rw[p.1];calc au.of (l _ _ t);rw[<-d];calc⟨rfl,none,rfl⟩;rw[<-d]at p;let(rfl,d8,rfl):=p;have w:m<c.size:=by have:=(WH.mp r).1;simpa using this
 rw[kV w]at r;cases r;let(_,_,cp,b4):=sv b (Yg w) tops;have gq:=(e0 b w).1;rfl';refine{_,_,rfl,by lia,gq,jP b4 (by decide),(mb b w).2,?_};rw[<-d];refine{rfl,some (V.int (aM c m)),?_};rw[Y1,HA];rfl;have bn:gb c.size aa G2:=by
  have:(((List.range c.size).map (aM c)).map V.int).length=c.size:=by simp
  rw[<-this];exact p
 rw[<-d]at bn;let(rfl,d8,rfl):=bn;let(_,_,cp,b4):=sv b (W2 c.size) tops;let(nf,tP):=oE c i n;have VG:=T.pos;rfl';refine er (K:=K) (gX (K:=K)) (sharesAfter c n (Vaprbq.at_ c i)) (by rw[WJ];lia) λdI he=>?_;rfl';refine he at_ _ G2 (au.of Y) (by rw[nf];simp) (λj x z jU Qf r hz u6 q=>?_) λzv dj zh jg U X r4=>k _ dj (l.trans U) ⟨zv,zh,rfl,X,r4⟩;have o:j<c.size:=by have:=(WH.mp hz).1;nofun
 rw[kX tops o]at r;cases r;rfl';refine{_,_,_,rfl,by lia,by nofun,jP b4 (by decide),{n,?_},λnE dZ s5 r5=>q _ dZ s5 ?_};rw[W8];calc T.dvd;rw[pR (f:=z) (tP z (WS hz)) (by lia)]at r5;calc r5;have e:val z=shr c i n j:=by unfold shr;rw[hz];rfl
 rw[T.is j o];have:=cast_pos T.pos;grind
end
section
variable {K:PySem.W.Frag}{ad:bC}
structure eV(ad:bC)(H:am)(a:Addr):Prop where
 ins:∃ao x fs,H a=some (.ins ad.Desk ao (("chain",x)::fs))
def eV.lst(h:eV ad H a)(e:H b=some (.lst xs)):del H a b=some (.lst xs):=by let(ao,x,fs,af):=h.ins;rwa[bf λz=>by erw[z,af]at e;cases e]
def eV.zJ(h:eV ad H a)(e:bJ K H t xs):bJ K (del H a) t xs:=by
 let(ao,x,fs,af):=h.ins;rcases e with(e|⟨o,e⟩)|e;calc .inl (.inl (by rwa[bf λz=>by rw[z,af]at e;cases e]));calc .inl (.inr {o,by rwa[bf λz=>by rw[z,af]at e;cases e]});calc .inr e
def eV.fld{f:Str}{cq:List (Str×V)}(h:eV ad H a)(c:f≠ "chain")(e:H b=some (.ins C d ((f,y)::cq))):del H a b=some (.ins C d ((f,y)::cq)):=by
 let(ao,x,fs,af):=h.ins;rw[bf λz=>by
  rw[z,af]at e;injection e with e;injection e with _ _ e;injection e with e;injection e with e;calc c e.symm]
 calc e
def eV.li{R:Re α}(h:eV ad H a)(c:∀v x,R H v x->R (del H a) v x){l:List α}(r:cv R H v l):cv R (del H a) v l:=by let(b,xs,e,ae,ag):=r;calc{b,xs,e,h.lst ae,ag.imp λv x r=>c v x r}
def eV.fr(h:eV ad H a)(r:gu K H v q):gu K (del H a) v q:=by let(t,e,b):=r;calc{t,e,h.zJ b}
def eV.sums(h:eV ad H a)(r:fI ad H v s):fI ad (del H a) v s:=by let(b,ao,l,e,ae,ag):=r;calc{b,ao,l,e,h.fld (by decide) ae,h.lst ag}
def eV.cut(h:eV ad H a)(b:bQ K ad W N H c):eV ad (cut W H) a:=by let(ao,x,fs,af):=h.ins;let(g,d,_):=b.ins;let(k1,f,_):=b.come;let(k2,i,_):=b.steps;let(k3,j,_):=b.steady;refine{ao,x,fs,jS af {λe=>?_,λe=>?_,λe=>?_,λe=>?_}};erw[e,d]at af;injection af with af;injection af with _ _ af;injection af with af;injection af with af;calc absurd af (by decide);nofun;nofun;nofun
def vy:cut W (del H a)=del (cut W H) a:=by unfold cut del;grind
def bQ.off(f:bQ K ad W N H c)(h:eV ad H a):bQ K ad W N (del H a) c:=by
 have hc:=h.cut f;let(g,D,E):=f.ins;let(k1,F,q,m):=f.come;let(k2,G,u,B):=f.steps;let(k3,I,w,n):=f.steady;let(ao,x,fs,af):=h.ins;have A:∀{b:Addr}{o:bH},H b=some o->(∀C d cq y,o≠.ins C d (("chain",y)::cq))->del H a b=some o:=λ{b o}e J=>by rwa[bf λz=>by rw[z,af]at e;calc J _ _ _ _ (Xw e).symm]
 have aq:∀{v s},fI ad (cut W H) v s->fI ad (cut W (del H a)) v s:=λr=>by rw[vy];exact hc.sums r
 refine{{g,h.fld (by decide) D,?_},?_,{k1,A F (λ_ _ _ _ z=>by cases z),q,λj v p=>aq (m j v p)},{k2,A G (λ_ _ _ _ z=>by cases z),u,λj v p=>?_},{k3,A I (λ_ _ _ _ z=>by cases z),w,λk v l p hl=>?_},f.ne};grind;rw[vy];have st:=f.st;refine{hc.li (λv x r=>hc.li (λv x zz=>by let(t,e,L):=zz;calc {t,e,hc.zJ L}) r) st.rows,?_,?_,hc.li (λv x r=>{hc.fr r.1,r.2}) st.worths,hc.li (λv x zz=>by let(b,e,i):=zz;calc {b,e,hc.lst i}) st.ways,hc.li (λv x zz=>by let(b,d,l,e,ae,ag):=zz;calc {b,d,l,e,hc.fld (by decide) ae,hc.lst ag}) st.classes,?_};let(b,e,i):=st.tots;calc{b,e,hc.lst i};let(b,e,i):=st.ends;calc{b,e,hc.lst i};let(b,e,i):=st.closed;calc{b,e,hc.lst i};grind;rw[vy];calc hc.li (R:=eT K) (λv x r=>hc.fr r) (n k v l p hl)
def HB(h:eV ad H a)(r:hZ K ad H v c):hZ K ad (del H a) v c:=by let(b,ao,an,g,d,i,xs,e,C):=r;exact{b,ao,an,g,d,i,xs,e,{h.fld (by decide) C.ins,h.lst C.names,h.lst C.worths,C.worth.imp λv f r=>{h.fr r.1,r.2},h.lst C.steps,C.step.imp λv l r=>h.li (λv x zz=>by let(t,j,e,ae,ag):=zz;calc {t,j,e,h.zJ ae,{h.fr ag.1,ag.2}}) r}}
def fJ(K:PySem.W.Frag)(ad:bC)(a ao:Addr)(N:Nat):Option Chain->am->Prop|none,H=>H a=some (.ins ad.Desk ao [("chain",.bb),("walk",.bb)])|some c,H=>∃b W,H a=some (.ins ad.Desk ao [("chain",.ref b),("walk",.ref W.a)])/\hZ K ad (cut W H) (.ref b) c/\aY c/\bQ K ad W N H c
def fJ.mono(jx:aw H aj)(h:fJ K ad a ao N s H):fJ K ad a ao N s aj:=by
 cases s with|none=>calc jx _ _ h|some c=>let(b,W,ae,ag,d,e):=h;calc{b,W,jx _ _ ae,gz _ _ _ _ (eH jx) ag,d,e.mono jx}
def fJ.more(d:N<=M)(h:fJ K ad a ao N s H):fJ K ad a ao M s H:=by
 cases s with|none=>calc h|some c=>let(b,W,ae,ag,e,f):=h;calc{b,W,ae,ag,e,f.more d}
def HC:bH->Prop|.lst _=>True|.e1 _ _=>True|_=>False
def iC(H ai:am):Prop:=∀b o,HC o->H b=some o->ai b=some o
def iC.lst(h:iC H ai)(e:H b=some (.lst xs)):ai b=some (.lst xs):=h _ _ trivial e
def iC.vz(h:iC H ai)(e:au K H b xs):au K ai b xs:=by
 rcases e with(e|⟨o,e⟩)|e;calc .inl (.inl (h _ _ trivial e));calc .inl (.inr {o,h _ _ trivial e});calc .inr e
def eV.HD(h:eV ad H a)(t:HC o)(e:H b=some o):del H a b=some o:=by let(ao,x,fs,af):=h.ins;rwa[bf λz=>by erw[z,af]at e;cases e;calc t]
def ez(s:aw H ai):iC H ai:=λb o _ e=>s _ _ e
def iD(h:bQ K ad W N H c)(k:Kept K ad W M c H ai):iC H ai:=λb o t e=>by let(g,a,_):=h.ins;let(k1,d,_):=h.come;let(k2,f,_):=h.steps;let(k3,i,_):=h.steady;refine c3 _ _ (k.same _ _ (jS e {λz=>?_,λz=>?_,λz=>?_,λz=>?_}));rw[z,a]at e;cases e;calc t;rw[z,d]at e;cases e;calc t;rw[z,f]at e;cases e;calc t;rw[z,i]at e;cases e;calc t
def n2(ae:H a=some (.ins ad.Desk ao [("chain",.ref b),("walk",.ref W.a)]))(ag:hZ K ad (cut W H) (.ref b) c)(e:aY c)(f:bQ K ad W N H c)(k:Kept K ad W M c H ai):fJ K ad a ao M (some c) ai:=by
 have hd:eV ad H a:={_,_,_,ae};let(g,x,fs,af):=(hd.cut f).ins;have d:cut W H a=some (.ins ad.Desk ao [("chain",.ref b),("walk",.ref W.a)]):=by have:=c3 _ _ af;grind
 calc{b,W,c3 _ _ (k.same _ _ d),gz _ _ _ _ k.same ag,e,k.at_}
def md(hc:ef K ad)(h:H p=some (.ins ad.Desk ao [("chain",x),("walk",y)]))(q:Q x H):ed K (Str.ofString "chain") p H Q:=mf.fld h hc.desk (by simp) rfl q
def gc(hc:ef K ad)(h:H p=some (.ins ad.Desk ao [("chain",x),("walk",y)]))(q:Q y H):ed K (Str.ofString "walk") p H Q:=mf.fld h hc.desk (by simp) rfl q
end
section
variable {P:Program}{w:World}{K:PySem.W.Frag}{mg:Str->Option Value}{base:Heap}{ad:bC}{bx:hk} (Z:fS P w K mg base ad bx)
def Tf:bt:=λK ad vs H Q _=>∃p ao,vs=[.ref p]/\H p=some (.ins ad.Desk ao [])/\Q .bb (upd H p (.ins ad.Desk ao [("chain",.bb),("walk",.bb)]))
def Tg:jI Z Z.Ex 1 (Tf K ad):=by refine a6 ["self"] Z.Ex (λc nd d a=>(ax (cN K (ah 0) wJ) (az (cN K (ah 0) wJ)))) λH vs Q E h=>?_;let(p,ao,rfl,b,k):=h;rfl';refine cO b Z.hc.desk (by simp) (by decide) (cO aO Z.hc.desk (by simp) (by decide) ?_);simp[gk];calc k
def Th:bt:=λK ad vs H Q _=>∃a ao N c,∃z,vs=[.ref a,.int z]/\fJ K ad a ao N (some c) H/\∀b,(b=true↔¬(0<=z/\z<c.size))->Q (.aG b) H
def ji:uq Z Z.Ey 1 Th:=by
 refine m0 ["self","number"] Z.Ey (λi nd j d=>(az (aT (wM (kk io (ah 1) aJ (bZ _)) (tr (kk A0 (ah 1) (cm K Z.cf (aC K (aC K (ah 0)))) (bZ _))))))) λH vs Q E h=>zi0 λ_ _=>?_;let(a,ao,N,c,z,rfl,z0,k):=h;let(b,W,ae,ag,l,m):=z0;rfl';let(n,f,an,o,g,p,xs,e,C):=ag;cases e;rfl';have key:z<0\/¬z<0:=by lia
 rcases key with hz|hz;grind;rw[WM hz];refine md Z.hc ae (lZ Z.hc (c3 _ _ C.ins) (cw (au.of (c3 _ _ C.names)) ?_));rw[WC];refine k _ {λh=>?_,λh=>?_};have:=Zt h;have e:c.states.length=c.size:=rfl;nofun;refine Xm ?_;have e:c.states.length=c.size:=rfl;nofun
def Ti:bt:=λK ad vs H Q _=>∃a ao N c,∃z,vs=[.ref a,.int z]/\fJ K ad a ao N (some c) H/\∀b,(b=true↔¬(0<=z/\z<((Vaprbq.classes c).length)))->Q (.aG b) H
def HE:uq Z Z.Ez 1 Ti:=by
 refine m0 ["self","number"] Z.Ez (λj nd l f=>(az (aT (wM (kk io (ah 1) aJ (bZ _)) (tr (kk A0 (ah 1) (cm K Z.cf (aC K (aC K (ah 0)))) (bZ _))))))) λH vs Q E h=>zi0 λ_ _=>?_;let(a,ao,N,c,z,rfl,z0,k):=h;let(b,W,ae,ag,m,g):=z0;rfl';let(xs,d,e,i):=pV g.ej;rfl';have key:z<0\/¬z<0:=by lia
 rcases key with hz|hz;grind;rw[WM hz];refine gc Z.hc ae (b_ Z.hc g (by simp) (λ_=>rfl) (cw (au.of d) ?_));refine k _ {λh=>?_,λh=>?_};nofun;nofun
def HF(l:List Frac):List Int:=l.length::l.flatMap fracRow
def Tj:bt:=λK ad vs H Q _=>∃v l,vs=[v]/\cv (eT K) H v l/\l.length<=24/\∀a ai,aw H ai->cZ ai a (HF l)->Q a ai
def Tk(l:List Frac):(l.flatMap fracRow).length=2*l.length:=by
 induction l with|nil=>rfl|cons x r a=>erw[Y7,WI,WL];show 2+_=_;lia
def zK:bz Z Z.EQ 1 Tj:=by refine d0 ["shares","told","share"] Z.EQ (λy nd z j=>(zx0 (aV 1 nd (bN (av (cm K Z.cf (ah 0))))) (zx0 (dS Xe rfl (cH K (ah 0)) (cG 2 nd) (az (dv (ue rfl (ah 1) (av (ah 2)))))) (az (aT (ah 1)))))) λH vs Q E h=>zi0 λ_ _=>?_;let(v,l,rfl,z0,q,k):=h;let(a,xs,rfl,e,g):=z0;rfl';refine cw (au.of e) ?_;rw[g.1];refine{by rw[WJ];decide,λT H1 r s1 ae=>?_};rfl';refine iw λA s=>?_;rfl';generalize b:(λm aa G=>aw H (del G T)/\G T=some (.lst (((l.length:Int)::(l.take m).flatMap fracRow).map V.int))/\∃o,aa=[some (V.ref a),some (V.ref T),o])=Pv;refine s a xs H1 (au.of (s1 _ _ e)) (jG (xs:=xs) Pv (λm aa G p=>?_) ?_ (λm aa G x i p=>?_) λaa G p=>?_);rw[<-b]at p;calc au.of ((p.1.trans bo) _ _ e);rw[<-b];calc{gw r s1,ae,none,rfl};rw[<-b]at p;let(c,d,o,rfl):=p;let(f,n,t,rfl,u):=g.get' i;have w:=(WH.mp n).1;rfl';refine{{_,d},_,_,d,.inr (d9 (c.trans bo) u),?_,?_};erw[WC,WL,Tk,Yp,WJ];show _+2<=_;lia;simp only[<-b];refine{by rwa[cj],?_,_,rfl};erw[aO,eh n,aay,WU,WU,Xp];rfl;rfl';rw[<-b,g.1,XO]at p;let(c,d,o,rfl):=p;rfl';calc k _ G (c.trans bo) ⟨T,rfl,d⟩
def Tl{j:Nat}(h:(a4 b).cps[j]? =some a):(b.map λx=>(x.toNat:Int))[j]? =some (a:Int):=by
 unfold a4 at h;simp only[List.getElem?_toArray,WG]at h⊢;cases e:b[j]? with
 |none=>nofun
 |some x=>nofun
def Tn:bt:=λK ad vs H Q _=>∃b,vs=[.str (a4 b)]/\b.length<=100000/\∀a ai,aw H ai->cZ ai a (textRow b)->Q a ai
def HG:bz Z Z.EP 1 Tn:=by refine d0 ["text","sign"] Z.EP (λo nd r d=>(az (aT (bl dY (bN (av (cm K Z.cf (ah 0)))) (dz rfl nd (K4 (ah 0)) (cM (own:=[("sign",1)]) (by kernel_rfl)) (λ_ _ _ _ _=>b3 1 nd) (λ_ _ _ _ _=>dh) λ_ _ _ _ _=>ck (gm Jp (by rfl) Z.Nd PyProof.Rows.Boot.«ord» (av (ah 1)))))))) λH vs Q E h=>?_;let(b,rfl,s,k):=h;rfl';refine{by erw[str_len,WJ];lia,?_};rw[str_len];refine{by rw[WJ];decide,λp H1 t s1 ae=>?_};refine MY hj (b.map λx=>x.toNat) (by erw[WC,WJ];lia) λu g=>?_;rfl';refine g (a4 b) H1 (by erw[WC];calc str_len b) (λj v z G w a hz y q=>?_) λD ai us A e ag c=>?_;rw[Tl a]at hz;cases hz;rfl';calc{rfl,q _ G (aw.refl _) rfl};have c:=ew c;subst c;refine{_,_,e _ _ ae,ag,by erw[WC,WC,WJ];show 1+_<=_;lia,λi l B m n=>k _ l ((s1.trans e).trans m) {i,rfl,?_}};rw[n];rfl
def hy(K:PySem.W.Frag)(ad:bC)(ok:List Int->List Int->Prop)(f:Chain->List Int->List Int->List Int):bE:=λvs H Q _=>∃a ao N c d e b row,vs=[.ref a,d,e]/\fJ K ad a ao N (some c) H/\N<=900/\cZ H d b/\cZ H e row/\ok b row/\
 ∀v ai,fJ K ad a ao (N+1) (some c) ai->iC H ai->cZ ai v (f c b row)->Q v ai
abbrev look(c:Chain)(k:Vaprbq.Call):List Int:=encode (looked c k)
def jX(h:¬(0<=z/\z<(c.size:Int)))f:withState c z f=refused (-2):=by unfold withState index;rw[WM h]
def gd{c:Chain}(h:i<c.size)f:withState c i f=f i:=by unfold withState index;rw[WO {by nofun,by nofun},XM]
def sx(a:iC H ai)(b:iC ai c):iC H c:=λx o t e=>b _ _ t (a _ _ t e)
def HH(K:PySem.W.Frag)(ad:bC):bE:=hy K ad (λa _=>∃i j,a=[i,j]) λc a _=>look c (.come (a.getD 0 0) (a.getD 1 0))
def To:bz Z Z.EF 7 HH:=by
 refine d0 ["desk","numbers","row"] Z.EF (λr nd X y=>(ax (bB (dP.pt (kf (b9 (cY (ji Z) (r.mono (by decide)) dt (ah 0) (av (aQ K (ah 1) aJ)))) (ke (b9 (cY (ji Z) (r.mono (by decide)) dt (ah 0) (av (aQ K (ah 1) aJ))))))) (az (aT (bN (av (bG Z.jH))))) bI) (az (aT (bl dY (bN (av aJ)) (kn (o' rfl) (by rfl) Z.pb PyProof.Rows.Boot.«list» (av (a5 (zr Z) r (aD (aC K (ah 0)) (aD (aQ K (ah 1) aJ) (av (aQ K (ah 1) aJ)))))))))))) λH vs Q E h=>zi0 λ_ _=>?_;let(a,ao,N,c,Y,fT,A,row,rfl,s,e2,z0,r,z1,k):=h;let(an,rfl,u):=z0;let(i,j,rfl):=z1;rfl';let(b,W,ae,x,B,w):=id s;have f:¬((0<=i/\i<c.size)/\(0<=j/\j<c.size))->look c (.come i j)=[-2]:=by
  intro h;show encode (withState c i λi=>withState c j λj=>fracAnswer (Vaprbq.come c i j))=_;by_cases af:0<=i/\i<c.size;have e:(i.toNat)=i:=by lia
  rw[<-e,gd (by nofun),jX λC=>h ⟨af,C⟩];rfl;rw[jX af];rfl
 have no:¬((0<=i/\i<c.size)/\(0<=j/\j<c.size))->∀ai,aw H ai->∀p,ai p=some (.lst [.int (-2)])->Q (.ref p) ai:=λh ai d p G=>k _ ai ((s.mono d).more (by lia)) (ez d) {p,rfl,by nofun};rfl';refine{_,_,ae,rfl,aZ (au.of u) rfl ?_};refine{a,ao,N,c,i,rfl,s,λI m=>?_};symm;cases I with|true=>rw[WO rfl];exact{by rw[WJ];decide,λp ai D d ag=>no (λz=>m.mp rfl z.1) ai d p ag}|false=>
  rw[WM (by decide)];have af:=WR λz=>Bool.noConfusion (m.mpr z);refine{_,_,ae,rfl,aZ (au.of u) rfl ?_};refine{a,ao,N,c,j,rfl,s,λJ n=>?_};symm;cases J with|true=>rw[WO rfl];exact{by rw[WJ];decide,λp ai D d ag=>no (λz=>n.mp rfl z.2) ai d p ag}|false=>
   rw[WM (by decide)];have C:=WR λz=>Bool.noConfusion (n.mpr z);obtain⟨g,rfl⟩:∃g:Nat,i=g:={i.toNat,by lia};obtain⟨l,rfl⟩:∃l:Nat,j=l:={j.toNat,by lia};have o:g<c.size:=by lia
   have q:l<c.size:=by lia
   refine{by rw[WJ];decide,λp ai D d ag=>?_};refine gc Z.hc (d _ _ ae) ?_;refine aZ (au.of (d _ _ u)) rfl (aZ (au.of (d _ _ u)) rfl ?_);refine{W,N,c,g,l,rfl,w.mono d,B,o,q,λv bU k3 L=>?_};let(t,rfl,M):=n1 L;refine{t,_,rfl,.inr M,λi_ dj jg F O=>?_};have P:=iD (w.mono d) k3;refine{_,_,F _ _ (P.lst ag),O,by rw[WJ];show 1+2<=16777216;decide,λR S hg T U=>?_};have k5:=(k3.then F).then T;refine k _ S ((n2 (d _ _ ae) (gz _ _ _ _ (eH d) x) B (w.mono d) k5).more (by lia)) (sx (ez d) (iD (w.mono d) k5)) {R,rfl,?_};rw[U];show _=some (bH.lst ((look c (.come g l)).map V.int));show _=some (bH.lst ((encode (withState c g λi=>withState c l λj=>fracAnswer (Vaprbq.come c i j))).map V.int));rw[gd o,gd q];rfl
def me {c:Chain}{i:Int}{b:Bool} (h:b=true↔¬(0<=i/\i<(c.size:Int))) (a:b=false):∃d:Nat,i=(d:Int)/\d<c.size:=by
 have af:0<=i/\i<(c.size:Int):=WR λz=>by rw[h.mpr z]at a;cases a
 exact{i.toNat,by lia,by nofun}
def g4 {H:am}{p:Addr}{l m:List Int} (h:H p=some (.lst (l.map V.int))) (e:l=m):cZ H (.ref p) m:={p,rfl,by rw[h,e]}
def HI (K:PySem.W.Frag) (ad:bC):bE:=hy K ad (λa _=>∃i,a=[i]) (λc a _=>look c (.back (a.getD 0 0)))
def Tp:bz Z Z.EG 8 HI:=by
 refine d0 ["desk","numbers","row"] Z.EG (λo nd M s=>(ax (bB (b9 (cY (ji Z) (o.mono (by decide)) dt (ah 0) (av (aQ K (ah 1) aJ)))) (az (aT (bN (av (bG Z.jH))))) bI) (az (aT (bl dY (bN (av aJ)) (kn (o' (K:=K) rfl) (by rfl) Z.pb PyProof.Rows.Boot.«list» (av (a5 (RS Z) o (aD (aC K (ah 0)) (av (aQ K (ah 1) aJ))))))))))) λH vs Q E h=>?_;let(a,ao,N,c,O,P,u,row,rfl,q,R,z0,o,z1,k):=h;let(an,rfl,w):=z0;let(i,rfl):=z1;let(b,W,ae,r,x,m):=id q;have out:∀ai p l,aw H ai->ai p=some (.lst (l.map V.int))->l=look c (.back i)->Q (.ref p) ai:=λai p l d z e=>k _ ai ((q.mono d).more (by lia)) (ez d) (g4 z e);rfl';refine{_,_,ae,rfl,aZ (j:=0) (au.of w) rfl ?_};refine{a,ao,N,c,i,rfl,q,λA f=>?_};symm;cases A with
 |true=>
  rw[WO rfl];exact{by rw[WJ];decide,λp ai B d ag=>out ai p [-2] d ag (by show _=encode (withState c i λj=>fracAnswer (Vaprbq.back c j));rw[jX (f.mp rfl)];rfl)}
 |false=>
  rw[WM (by decide)];let(n,rfl,g):=me f rfl;refine{by rw[WJ];decide,λp ai B d ag=>?_};refine gc Z.hc (d _ _ ae) ?_;refine aZ (j:=0) (au.of (d _ _ w)) rfl ?_;refine{W,N,c,n,rfl,m.mono d,x,g,λv S k3 C=>?_};let(t,rfl,D):=n1 C;refine{t,_,rfl,.inr D,λT U X y F=>?_};have G:=iD (m.mono d) k3;refine{_,_,y _ _ (G.lst ag),F,by erw[WJ];show 1+2<=16777216;decide,λY I hg J L=>?_};have k5:=(k3.then y).then J;refine k _ I ((n2 (d _ _ ae) (gz _ _ _ _ (eH d) r) x (m.mono d) k5).more (by lia)) (sx (ez d) (iD (m.mono d) k5)) (g4 (l:=[1,(Vaprbq.back c n).num,((Vaprbq.back c n).den:Int)]) L ?_);show _=encode (withState c (n:Int) λj=>fracAnswer (Vaprbq.back c j));rw[gd g];rfl
def HJ (K:PySem.W.Frag) (ad:bC):bE:=hy K ad (λa _=>∃i j,a=[i,j]) (λc a _=>look c (.visits (a.getD 0 0) (a.getD 1 0)))
def Tq:bz Z Z.EH 8 HJ:=by
 refine d0 ["desk","numbers","row"] Z.EH (λq nd A I=>(ax (bB (dP.pt (kf (b9 (cY (ji Z) (q.mono (by decide)) dt (ah 0) (av (aQ K (ah 1) aJ)))) (ke (b9 (cY (ji Z) (q.mono (by decide)) dt (ah 0) (av (aQ K (ah 1) aJ))))))) (az (aT (bN (av (bG Z.jH))))) bI) (ax (bB (b9 (a5 (G8 Z) q (aD (aC K (ah 0)) (aD (aQ K (ah 1) aJ) (av (aQ K (ah 1) aJ)))))) (az (aT (bN (av (bG Z.x'))))) bI) (az (aT (bl dY (bN (av aJ)) (kn (o' (K:=K) rfl) (by rfl) Z.pb PyProof.Rows.Boot.«list» (av (a5 (RW Z) q (aD (aC K (ah 0)) (aD (aQ K (ah 1) aJ) (av (aQ K (ah 1) aJ))))))))))))) λH vs Q E h=>?_;let(a,ao,N,c,nD,fT,J,row,rfl,B,e2,z0,q,z1,k):=h;let(an,rfl,o):=z0;let(i,j,rfl):=z1;let(b,W,ae,D,C,r):=id B;have M:=cJ C;have out:∀ai p l,aw H ai->ai p=some (.lst (l.map V.int))->l=look c (.visits i j)->Q (.ref p) ai:=λai p l d O e=>k _ ai ((B.mono d).more (by lia)) (ez d) (g4 O e);have le:∀i j,look c (.visits i j)=encode (withState c i λi=>withState c j λj=>orRefused (Vaprbq.visits c i j) (-6)):=λi j=>rfl;rfl';refine{_,_,ae,rfl,aZ (j:=0) (au.of o) rfl ?_};refine{a,ao,N,c,i,rfl,B,λP s=>?_};symm;cases P with
 |true=>
  rw[WO rfl];exact{by rw[WJ];decide,λp ai F d ag=>out ai p [-2] d ag (by rw[le,jX (s.mp rfl)];rfl)}
 |false=>
  rw[WM (by decide)];let(w,rfl,g):=me s rfl;refine{_,_,ae,rfl,aZ (j:=1) (au.of o) rfl ?_};refine{a,ao,N,c,j,rfl,B,λR x=>?_};symm;cases R with
  |true=>
   rw[WO rfl];exact{by rw[WJ];decide,λp ai F d ag=>out ai p [-2] d ag (by rw[le,gd g,jX (x.mp rfl)];rfl)}
  |false=>
   rw[WM (by decide)];let(y,rfl,m):=me x rfl;refine gc Z.hc ae ?_;refine aZ (j:=0) (au.of o) rfl (aZ (j:=1) (au.of o) rfl ?_);let(u,A):=zw λ_=>fa c w y;refine{W,N,c,w,y,u 0,rfl,r,C,g,m,A 0,?_};symm;cases n:u 0 with
   |true=>
    rw[WO rfl];exact{by rw[WJ];decide,λp ai F d ag=>out ai p [-6] d ag (by rw[le,gd g,gd m,sR M g m ((A 0).mp n)];rfl)}
   |false=>
    rw[WM (by decide)];have G:¬fa c w y:=λz=>by rw[(A 0).mpr z]at n;cases n
    refine{by rw[WJ];decide,λp ai F d ag=>?_};refine gc Z.hc (d _ _ ae) ?_;refine aZ (j:=0) (au.of (d _ _ o)) rfl (aZ (j:=1) (au.of (d _ _ o)) rfl ?_);refine{W,N,c,w,y,rfl,r.mono d,C,g,m,G,λv bU f k3 S T=>?_};let(t,rfl,U):=n1 T;refine{t,_,rfl,.inr U,λi_ dj jg L X=>?_};have Y:=iD (r.mono d) k3;refine{_,_,L _ _ (Y.lst ag),X,by erw[WJ];show 1+2<=16777216;decide,λl1 dZ hg s5 cV=>?_};have k5:=(k3.then L).then s5;refine k _ dZ ((n2 (d _ _ ae) (gz _ _ _ _ (eH d) D) C (r.mono d) k5).more (by lia)) (sx (ez d) (iD (r.mono d) k5)) (g4 (l:=[1,f.num,(f.den:Int)]) cV ?_);show _=look c (.visits (w:Int) (y:Int));rw[le,gd g,gd m,S];rfl
def HK (K:PySem.W.Frag) (ad:bC):bE:=hy K ad (λa _=>∃i,a=[i]) (λc a _=>look c (.gain (a.getD 0 0)))
def Tr:bz Z Z.EJ 6 HK:=by
 refine d0 ["desk","numbers","row"] Z.EJ (λr nd Y B=>(ax (bB (b9 (cY (ji Z) (r.mono (by decide)) dt (ah 0) (av (aQ K (ah 1) aJ)))) (az (aT (bN (av (bG Z.jH))))) bI) (ax (bB (b9 (a5 (Sc Z) r (aD (aC K (ah 0)) (av (aQ K (ah 1) aJ))))) (az (aT (bN (av (bG Z.x'))))) bI) (az (aT (bl dY (bN (av aJ)) (kn (o' (K:=K) rfl) (by rfl) Z.pb PyProof.Rows.Boot.«list» (av (a5 (Sk Z) r (aD (aC K (ah 0)) (av (aQ K (ah 1) aJ)))))))))))) λH vs Q E h=>?_;let(a,ao,N,c,nD,fT,C,row,rfl,w,e2,z0,r,z1,k):=h;let(an,rfl,x):=z0;let(i,rfl):=z1;let(b,W,ae,y,s,n):=id w;have G:=cJ s;have out:∀ai p l,aw H ai->ai p=some (.lst (l.map V.int))->l=look c (.gain i)->Q (.ref p) ai:=λai p l m I e=>k _ ai ((w.mono m).more (by lia)) (ez m) (g4 I e);have le:∀i,look c (.gain i)=encode (withState c i λi=>orRefused (Vaprbq.gain c i) (-6)):=λi=>rfl;rfl';refine{_,_,ae,rfl,aZ (j:=0) (au.of x) rfl ?_};refine{a,ao,N,c,i,rfl,w,λJ o=>?_};symm;cases J with
 |true=>
  rw[WO rfl];exact{by rw[WJ];decide,λp ai D m ag=>out ai p [-2] m ag (by rw[le,jX (o.mp rfl)];rfl)}
 |false=>
  rw[WM (by decide)];let(u,rfl,g):=me o rfl;refine gc Z.hc ae ?_;refine aZ (j:=0) (au.of x) rfl ?_;refine{W,N,c,u,rfl,n,s,g,λH1 L s1 q=>?_};symm;cases L with
  |true=>
   rw[WO rfl];exact{by rw[WJ];decide,λp ai D m ag=>out ai p [-6] (s1.trans m) ag (by rw[le,gd g,z_ G g (q.mp rfl)];rfl)}
  |false=>
   rw[WM (by decide)];have A:¬iJ c u:=λz=>by have:=q.mpr z;cases this
   refine{by rw[WJ];decide,λp ai D m ag=>?_};have d:=s1.trans m;refine gc Z.hc (d _ _ ae) ?_;refine aZ (j:=0) (au.of (d _ _ x)) rfl ?_;refine{W,N,c,u,rfl,n.mono d,s,g,A,λv bU f k3 M O=>?_};let(t,rfl,P):=n1 O;refine{t,_,rfl,.inr P,λi_ dj jg F R=>?_};have S:=iD (n.mono d) k3;refine{_,_,F _ _ (S.lst ag),R,by erw[WJ];show 1+2<=16777216;decide,λl1 T hg U X=>?_};have k5:=(k3.then F).then U;refine k _ T ((n2 (d _ _ ae) (gz _ _ _ _ (eH d) y) s (n.mono d) k5).more (by lia)) (sx (ez d) (iD (n.mono d) k5)) (g4 (l:=[1,f.num,(f.den:Int)]) X ?_);show _=look c (.gain (u:Int));rw[le,gd g,M];rfl
def zL (l:List Frac):encode (sharesAnswer l)=HF l:=rfl
def HL (K:PySem.W.Frag) (ad:bC):bE:=hy K ad (λa _=>∃i,a=[i]) (λc a _=>look c (.long (a.getD 0 0)))
def Ts:bz Z Z.EM 8 HL:=by
 refine d0 ["desk","numbers","row"] Z.EM (λg nd G t=>(ax (bB (b9 (cY (ji Z) (g.mono (by decide)) dt (ah 0) (av (aQ K (ah 1) aJ)))) (az (aT (bN (av (bG Z.jH))))) bI) (az (aT (a5 (zK Z) g (av (a5 (SG Z) g (aD (aC K (ah 0)) (av (aQ K (ah 1) aJ)))))))))) λH vs Q E h=>?_;let(a,ao,N,c,I,J,u,row,rfl,n,L,z0,g,z1,k):=h;let(an,rfl,w):=z0;let(i,rfl):=z1;let(b,W,ae,o,q,r):=id n;have s:c.size<=24:=q.bj;have out:∀ai p l,aw H ai->ai p=some (.lst (l.map V.int))->l=look c (.long i)->Q (.ref p) ai:=λai p l m z e=>k _ ai ((n.mono m).more (by lia)) (ez m) (g4 z e);have le:∀i,look c (.long i)=encode (withState c i λi=>sharesAnswer (Vaprbq.long c i)):=λi=>rfl;rfl';refine{_,_,ae,rfl,aZ (j:=0) (au.of w) rfl ?_};refine{a,ao,N,c,i,rfl,n,λA d=>?_};symm;cases A with
 |true=>
  rw[WO rfl];exact{by rw[WJ];decide,λp ai M m ag=>out ai p [-2] m ag (by rw[le,jX (d.mp rfl)];rfl)}
 |false=>
  rw[WM (by decide)];let(x,rfl,f):=me d rfl;refine gc Z.hc ae ?_;refine aZ (j:=0) (au.of w) rfl ?_;refine{W,N,c,x,rfl,r,q,f,λv O k3 B=>?_};refine{_,_,rfl,c8 gX _ _ _ _ c3 B,by unfold Vaprbq.long numbers;rw[WC,W0];calc s,λC y D F=>?_};have k5:=k3.then D;refine k _ y ((n2 ae o q r k5).more (by lia)) (iD r k5) ?_;show cZ y C (look c (.long (x:Int)));erw[le,gd f,zL];calc F
def HM (K:PySem.W.Frag) (ad:bC):bE:=hy K ad (λa _=>∃i j,a=[i,j]) (λc a _=>look c (.after (a.getD 0 0) (a.getD 1 0)))
def Tt:bz Z Z.EE 5 HM:=by
 refine d0 ["desk","numbers","row","count"] Z.EE (λq nd S y=>(zx0 (aV 3 nd (aQ K (ah 1) aJ)) (ax (bB (b9 (cY (ji Z) (q.mono (by decide)) dt (ah 0) (av (aQ K (ah 1) aJ)))) (az (aT (bN (av (bG Z.jH))))) bI) (zx0 (bB (dP.pt (kf (b1 io (ah 3) aJ (bZ _)) (ke (b1 hN (ah 3) (bG Z.Nt) (bZ _))))) (az (aT (bN (av (bG Z.NA))))) bI) (az (aT (a5 (zK Z) q (av (a5 (Te Z) q (aD (aC K (ah 0)) (aD (aQ K (ah 1) aJ) (av (ah 3))))))))))))) λH vs Q E h=>?_;let(a,ao,N,c,T,U,z,row,rfl,r,X,z0,q,z1,k):=h;let(an,rfl,s):=z0;let(i,j,rfl):=z1;let(b,W,ae,C,A,D):=id r;rfl';have t:c.size<=24:=A.bj;have out:∀ai p l,aw H ai->ai p=some (.lst (l.map V.int))->l=look c (.after i j)->Q (.ref p) ai:=λai p l g F e=>k _ ai ((r.mono g).more (by lia)) (ez g) (g4 F e);have le:∀i j,look c (.after i j)=encode (withState c i λi=>if j<0\/(AFTER:Int)<j then refused (-5) else sharesAnswer (sharesAfter c j.toNat (Vaprbq.at_ c i))):=λi j=>rfl;rfl';refine aZ (j:=1) (au.of s) rfl ?_;rfl';refine{_,_,ae,rfl,aZ (j:=0) (au.of s) rfl ?_};refine{a,ao,N,c,i,rfl,r,λG m=>?_};symm;cases G with
 |true=>
  rw[WO rfl];exact{by rw[WJ];decide,λp ai I g ag=>out ai p [-2] g ag (by rw[le,jX (m.mp rfl)];rfl)}
 |false=>
  rw[WM (by decide)];let(u,rfl,d):=me m rfl;rfl';have n:(j<0\/100<j)->1<=sizeLine/\∀p ai,H p=none->aw H ai->ai p=some (.lst [.int (-5)])->Q (.ref p) ai:=λJ=>{by rw[WJ];decide,λp ai I g ag=>out ai p [-5] g ag (by rw[le,gd d,WO (show j<0\/(AFTER:Int)<j from J)];rfl)};refine ?_;symm;by_cases w:j<0
  ·rw[WO w]
   exact n (.inl w)
  ·rw[WM w]
   refine ?_;by_cases x:100<j
   ·rw[WO x]
    exact n (.inr x)
   ·rfl';rw[WM x]
    obtain⟨f,rfl⟩:∃f:Nat,j=(f:Int):={j.toNat,by lia};rfl';refine gc Z.hc ae ?_;refine aZ (j:=0) (au.of s) rfl ?_;refine{W,N,c,u,f,rfl,D,A,d,by lia,λv Y L M=>?_};refine{_,_,rfl,M,by rw[(oE c u f).1];calc t,λO B P R=>?_};have o:=L.trans P;refine k _ B ((r.mono o).more (by lia)) (ez o) ?_;show cZ B O (look c (.after (u:Int) (f:Int)));rw[le,gd d,WM (by show¬((f:Int)<0\/(100:Int)<(f:Int));nofun),XM,zL];calc R
def HN {c:Chain}{z:Int} (h:¬(0<=z/\z<((Vaprbq.classes c).length:Int))) (f:List Nat->Vaprbq.Answer):withClass c z f=refused (-2):=by
 unfold withClass index;simp[*]
def zM {c:Chain}{i:Nat}{l:List Nat} (h:(Vaprbq.classes c)[i]? =some l) (f:List Nat->Vaprbq.Answer):withClass c (i:Int) f=f l:=by
 have af:=(WH.mp h).1;unfold withClass index;nofun
def HO {c:Chain}{i:Int}{b:Bool} (h:b=true↔¬(0<=i/\i<((Vaprbq.classes c).length:Int))) (a:b=false):∃d:Nat,∃l,i=(d:Int)/\(Vaprbq.classes c)[d]? =some l:=by
 have af:0<=i/\i<((Vaprbq.classes c).length:Int):=WR λz=>by rw[h.mpr z]at a;cases a
 exact{i.toNat,_,by lia,WK (by nofun)}
def HP (K:PySem.W.Frag) (ad:bC):bE:=hy K ad (λa _=>∃i,a=[i]) (λc a _=>look c (.steady (a.getD 0 0)))
def Tu:bz Z Z.EL 5 HP:=by
 refine d0 ["desk","numbers","row"] Z.EL (λq nd T A=>(ax (bB (b9 (cY (HE Z) (q.mono (by decide)) dt (ah 0) (av (aQ K (ah 1) aJ)))) (az (aT (bN (av (bG Z.jH))))) bI) (ax (bB (jt (b9 (aC K (aQ K (aC K (aC K (ah 0))) (aQ K (ah 1) aJ))))) (az (aT (bN (av (bG Z.Nw))))) bI) (az (aT (a5 (zK Z) q (av (a5 (Hf Z) q (aD (aC K (ah 0)) (av (aQ K (ah 1) aJ))))))))))) λH vs Q E h=>?_;let(a,ao,N,c,U,X,B,row,rfl,s,Y,z0,q,z1,k):=h;let(an,rfl,t):=z0;let(i,rfl):=z1;let(b,W,ae,u,g,m):=id s;have out:∀ai p l,aw H ai->ai p=some (.lst (l.map V.int))->l=look c (.steady i)->Q (.ref p) ai:=λai p l d D e=>k _ ai ((s.mono d).more (by lia)) (ez d) (g4 D e);have le:∀i,look c (.steady i)=encode (withClass c i λl=>if Vaprbq.closed c l=false then refused (-7) else sharesAnswer (Vaprbq.steady c l)):=λi=>rfl;rfl';refine{_,_,ae,rfl,aZ (j:=0) (au.of t) rfl ?_};refine{a,ao,N,c,i,rfl,s,λF n=>?_};symm;cases F with
 |true=>
  rw[WO rfl];exact{by rw[WJ];decide,λp ai G d ag=>out ai p [-2] d ag (by rw[le,HN (n.mp rfl)];rfl)}
 |false=>
  rw[WM (by decide)];let(w,l,rfl,hl):=HO n rfl;let(xs,x,I,y):=pV m.ej;let(Gv,z,ca,J,pF,rfl,L,M):=y w l hl;refine gc Z.hc ae (b_ Z.hc m (by simp) (λ_=>rfl) (aZ (j:=0) (au.of t) rfl (aZ (au.of x) z ?_)));refine vb Z.hc L ?_;rfl';cases o:Vaprbq.closed c l with
  |false=>
   rw[WO rfl];exact{by rw[WJ];decide,λp ai G d ag=>out ai p [-7] d ag (by rw[le,zM hl,WO o];rfl)}
  |true=>
   rw[WM (by decide)];refine gc Z.hc ae ?_;refine aZ (j:=0) (au.of t) rfl ?_;refine{W,N,c,w,l,rfl,m,g,hl,λv bU k3 O=>?_};let(f,r,rfl,cl,_):=pU g (WS hl);refine{_,_,rfl,c8 gX _ _ _ _ c3 O,by rw[vm g cl,WC,WL];calc sq g cl,λP C R S=>?_};have k5:=k3.then R;refine k _ C ((n2 ae u g m k5).more (by lia)) (iD m k5) ?_;show cZ C P (look c (.steady (w:Int)));rw[le,zM hl,WM (by rw[o];decide),zL];calc S
def HQ (K:PySem.W.Frag) (ad:bC):bE:=hy K ad (λa _=>∃i,a=[i]) (λc a _=>look c (.period (a.getD 0 0)))
def Tv:bz Z Z.EN 3 HQ:=by
 refine d0 ["desk","numbers","row"] Z.EN (λq nd R w=>(ax (bB (b9 (cY (HE Z) (q.mono (by decide)) dt (ah 0) (av (aQ K (ah 1) aJ)))) (az (aT (bN (av (bG Z.jH))))) bI) (az (aT (bN (av (a5 (SY Z) q (aD (aC K (aC K (ah 0))) (av (aC K (aQ K (aC K (aC K (ah 0))) (aQ K (ah 1) aJ)))))))))))) λH vs Q E h=>?_;let(a,ao,N,c,S,T,x,row,rfl,s,U,z0,q,z1,k):=h;let(an,rfl,y):=z0;let(i,rfl):=z1;let(b,W,ae,A,z,o):=id s;have out:∀ai p l,aw H ai->ai p=some (.lst (l.map V.int))->l=look c (.period i)->Q (.ref p) ai:=λai p l d B e=>k _ ai ((s.mono d).more (by lia)) (ez d) (g4 B e);have le:∀i,look c (.period i)=encode (withClass c i λl=> {value:=(Vaprbq.period c l:Int)}):=λi=>rfl;rfl';refine{_,_,ae,rfl,aZ (j:=0) (au.of y) rfl ?_};refine{a,ao,N,c,i,rfl,s,λC g=>?_};symm;cases C with
 |true=>
  rw[WO rfl];exact{by rw[WJ];decide,λp ai X d ag=>out ai p [-2] d ag (by rw[le,HN (g.mp rfl)];rfl)}
 |false=>
  rw[WM (by decide)];let(D,l,rfl,hl):=HO g rfl;let(xs,t,F,u):=pV o.ej;let(Y,v,ca,G,I,rfl,J,m):=u D l hl;let(f,r,e,cl,L,n):=pU z (WS hl);refine gc Z.hc ae (b_ Z.hc o (by simp) (λ_=>rfl) ?_);refine gc Z.hc ae (b_ Z.hc o (by simp) (λ_=>rfl) (aZ (j:=0) (au.of y) rfl (aZ (au.of t) v ?_)));refine l_ Z.hc J ?_;rw[n]at m;refine{_,_,c,f,rfl,o.ej.rows,z,cl.lt f (WD ..),L,⟨I,rfl,m⟩,λai d=>?_};refine{by rw[WJ];decide,λp M kR O P=>out M p [(Vaprbq.period c l:Int)] (d.trans O) (by rw[P,n];rfl) (by rw[le,zM hl];rfl)}
theorem HR{α:Type}(f:α->List UInt8)B:∀l:List α,(∀x∈l,(f x).length<=B)->(l.flatMap f).length<=l.length*B|[],_=>by simp|x::r,h=>by have ae:=h x (WD ..);have ag:=HR f B r λy a=>h y (WE _ a);erw[Y7,WI,WL,Y8];lia
def Tw(a:aY c):c.shown.length<=100000:=by unfold Vaprbq.Chain.shown;have ae:=HR (showNode c) 500 c.states λs hs=>yH a hs;have ag:=a.bj;have b:=a.title;have d:=ly a c.start;erw[WI,WI,WI,WI,WI,WI,show(word "chance ").length=7 by decide+kernel,show(word "tell ").length=5 by decide+kernel];grind
def HS(K:PySem.W.Frag)(ad:bC):bE:=hy K ad (λa _=>a=[]) λc _ _=>look c .shown
def Tx:bz Z Z.EB 5 HS:=by refine d0 ["desk","numbers","row"] Z.EB (λe nd q g=>(az (aT (a5 (HG Z) e (av (a5 (FT Z) e (av (aC K (ah 0))))))))) λH vs Q E h=>zi0 λ_ _=>?_;let(a,ao,N,c,r,s,i,row,rfl,j,t,z,e,rfl,k):=h;let(an,rfl,u):=z;rfl';let(b,W,ae,f,l,v):=id j;rfl';refine md Z.hc ae ?_;refine{_,c,rfl,gz _ _ _ _ c3 f,l,λai m=>?_};refine{c.shown,rfl,Tw l,λw n o p=>?_};have d:=m.trans o;calc k _ n ((j.mono d).more (by nofun)) (ez d) p
def HT(K:PySem.W.Frag)(ad:bC):bE:=hy K ad (λa _=>a=[]) λc _ _=>look c .sizes
theorem HU:∀l:List Nat,((l.map λn:Nat=>(n:Int)).sum)=(l.sum)|[]=>rfl|x::r=>by erw[WU,aai,aai,HU r,Int.natCast_add]
def Tz:bz Z Z.EC 1 HT:=by
 refine d0 ["desk","numbers","row","chain","steps"] Z.EC (λy nd M t=>(zx0 (aV 3 nd (aC K (ah 0))) (az (aT (bN (aD (cm K Z.cf (aC K (ah 3))) (aD (gm (nq rfl rfl) (by rfl) Z.nu PyProof.Rows.Boot.«sum» (av (dz rfl nd (cH K (aC K (ah 3))) (cM (own:=[("steps",4)]) (by kernel_rfl)) (λ_ _ _ _ _=>b3 4 nd) (λ_ _ _ _ _=>dh) λ_ _ _ _ _=>ck (cm K Z.cf (ah 4))))) (av (aC K (ah 3)))))))))) λH vs Q E h=>zi0 λ_ _=>?_;let(a,ao,N,c,O,P,u,row,rfl,v,R,z0,y,rfl,k):=h;let(an,rfl,S):=z0;rfl';let(b,W,ae,g,w,T):=id v;let(U,A,B,X,i,Y,xs,e,C):=g;cases e;have F:c.size<=24:=w.bj;have C:=C.mono (c3 (W:=W));rfl';refine md Z.hc ae ?_;rfl';refine lZ Z.hc C.ins (cw (au.of C.names) ?_);refine er (K:=K) hj (c.states.map λs=>(s.steps.length:Int)) (by erw[WC,WJ];have:c.states.length<=24:=w.bj;lia) λQd hd=>?_;rfl';refine pB Z.hc C.ins ?_;refine hd i xs H (au.of C.steps) (by erw[C.step.1,WC,WC]) (λj x z G dI I hz J q=>?_) λD H1 us fH s1 m n=>?_;let(l,hl,pF,ys,rfl,o,r):=C.step.get' I;rw[WG]at hl hz;cases hs:c.states[j]? with
 |none=>nofun
 |some s=>rw[hs]at hl hz;cases hl;cases hz;rfl';refine cw (au.of (J _ _ o)) (q _ G (aw.refl _) ?_);show V.int _=V.int _;rw[r.1]
 have n:=ew (f:=V.int) n;subst n;refine{D,_,rfl,au.of m,?_};refine FO Z.hc (s1 _ _ C.ins) ?_;refine{by rw[WJ];decide,λp ai et L ag=>?_};have d:=s1.trans L;refine k _ ai ((v.mono d).more (by nofun)) (ez d) (g4 (l:=[(c.size:Int),(((c.states.map λs=>s.steps.length).sum:Nat):Int),(c.start:Int)]) ?_ rfl);rw[ag,<-HU,Xg,WC];rfl
def n3(c:Chain)(l:List Nat):List Int:=(if Vaprbq.closed c l=true then 1 else 0)::l.length::l.map λ(i:Nat)=>i
def HV(K:PySem.W.Frag)(ad:bC):bE:=hy K ad (λa _=>a=[]) λc _ _=>look c .classes
def TA(a:aY c)m:(((Vaprbq.classes c).take m).flatMap (n3 c)).length<=1000:=by
 have key:∀l:List (List Nat),(∀x∈l,x.length<=24)->(l.flatMap (n3 c)).length<=l.length*26:=by
  intro l;induction l with
  |nil=>nofun
  |cons x r b=>
   intro h;have ae:=h x (WD ..);have ag:=b λy d=>h y (WE _ d);erw[Y7,WI,WL,Y8];have:(n3 c x).length=x.length+2:=by unfold n3;simp
   lia
 have ae:=key ((Vaprbq.classes c).take m) λx e=>by let(f,r,rfl,cl,_):=pU a (Zx e);exact sq a cl
 have ag:=zA a;grind
def TB:bz Z Z.EK 1 HV:=by
 refine d0 ["desk","numbers","row","told","found"] Z.EK (λbF nd bg h2=>(zx0 (aV 3 nd (bN (av (cm K Z.cf (aC K (aC K (ah 0))))))) (zx0 (dS Xe rfl (cH K (aC K (aC K (ah 0)))) (cG 4 nd) (ax (dv (gS (ah 3) (av (ts (b9 (aC K (ah 4))) aJ aJ)))) (ax (dv (gS (ah 3) (av (cm K Z.cf (aC K (ah 4)))))) (az (dv (ue rfl (ah 3) (av (aC K (ah 4))))))))) (az (aT (ah 3)))))) λH vs Q E h=>zi0 λ_ _=>?_;let(a,ao,N,c,nD,fT,nums,row,rfl,dx,e2,z0,bF,rfl,k):=h;let(an,rfl,c0):=z0;rfl';let(b,W,ae,kz,P,R):=id dx;let(xs,g,n,S):=pV R.ej;rfl';refine gc Z.hc ae (b_ Z.hc R (by simp) (λ_=>rfl) (cw (au.of g) ?_));rw[n];refine{by rw[WJ];decide,λT H1 U s1 X=>?_};rfl';refine iw λd3 a9=>?_;rfl';refine gc Z.hc (s1 _ _ ae) (b_ Z.hc (R.mono s1) (by simp) (λ_=>rfl) ?_);generalize q:(λm(aa:L2.St)G=>aw H (del G T)/\G T=some (.lst ((((Vaprbq.classes c).length:Int)::((Vaprbq.classes c).take m).flatMap (n3 c)).map V.int))/\∃o,aa=[some (V.ref a),some (V.ref an),some fT,some (V.ref T),o])=Pv;refine a9 W.classes xs H1 (au.of (s1 _ _ g)) (jG (xs:=xs) Pv (λm aa G p=>?_) ?_ (λm aa G x s p=>?_) λaa G p=>?_)
 .rw[<-q]at p;exact au.of ((p.1.trans bo) _ _ g)
 .rw[<-q];exact{gw U s1,X,none,rfl}
 .rw[<-q]at p;let(I,J,o,rfl):=p;have hm:m<(Vaprbq.classes c).length:=by have:=(WH.mp s).1;nofun
  obtain⟨l,hl⟩:∃l,(Vaprbq.classes c)[m]? =some l:={_,WK hm};let(GK,t,L,u,v,rfl,M,i):=S m l hl;rw[s]at t;cases t;have w:v≠T:=λe=>by rw[e,U]at i;cases i
  have A:L≠T:=λe=>by rw[e,U]at M;cases M
  have d:=I.trans bo;have bj:=TA P m;let(f,r,rfl,cl,_):=pU P (WS hl);have len:=sq P cl;rfl';refine{{_,J},vb Z.hc (d _ _ M) ?_};refine ?_;symm;have step:∀z:Int,z=(if Vaprbq.closed c (f::r)=true then 1 else 0)->∀O,(∀b,b≠T->O b=G b)->O T=some (.lst ((((Vaprbq.classes c).length:Int)::((Vaprbq.classes c).take m).flatMap (n3 c)).map V.int++[.int z]++[.int ((f::r).length:Int)]++bM (f::r)))->Pv (m+1) [some (V.ref a),some (V.ref an),some fT,some (V.ref T),some (V.ref L)] O:=by
   intro z hz O dW Y;rw[<-q];refine{λb o e=>?_,?_,_,rfl}
   .have:=I _ _ e;have vA:b≠T:=λy=>by rw[y,fG]at this;cases this
    rw[bf vA]at this⊢;rw[dW b vA];exact this
   rw[Y,eh hl,hz];simp[n3]
  have B:∀{o:bH},upd G T o v=some (.lst (bM (f::r))):=λ{o}=>by rw[aK w];exact d _ _ i
  have C:∀{o:bH},upd G T o L=some (.ins ad.StateClass u [("states",.ref v),("closed",.aG (Vaprbq.closed c (f::r)))]):=λ{o}=>by rw[aK A];exact d _ _ M
  have TC:∀{o D:bH},upd (upd G T o) T D v=some (.lst (bM (f::r))):=λ{o D}=>by rw[aK w];exact B
  have TD:∀{o D:bH},upd (upd G T o) T D L=some (.ins ad.StateClass u [("states",.ref v),("closed",.aG (Vaprbq.closed c (f::r)))]):=λ{o D}=>by rw[aK A];exact C
  have HW:(bM (f::r)).length=(f::r).length:=WC _;split
  all_goals
   rename_i F;refine{_,J,by rw[WC,WL,WJ];lia,?_};refine{{_,aO},l_ Z.hc C (cw (au.of B) ?_)};refine{_,aO,by rw[WI,WC,WL,WJ];show _+1+1<_;lia,?_};refine{{_,aO},l_ Z.hc TD ?_};refine{_,_,aO,.inl TC,by rw[WJ];erw[WI,WC,WL,Yc];lia,?_}
  .refine step 1 (by rw[WO F]) _ (λb j=>by rw[aK j,aK j,aK j]) ?_;rw[aO,HW]
  refine step 0 (by rw[WM F]) _ (λb j=>by rw[aK j,aK j,aK j]) ?_;rw[aO,HW]
 rfl';rw[<-q,n,XO]at p;let(I,J,o,rfl):=p;rfl';have d:=I.trans bo;rfl';calc k _ G ((dx.mono d).more (by nofun)) (ez d) (g4 J rfl)
def k4 (c:Chain) (i:Nat) (m:Nat):List Int:=((c.node i).steps.take m).flatMap λs=>(s.1:Int)::fracRow (chance c i s.1)
def TF (c:Chain) (i m:Nat):(k4 c i m).length<=3*(c.node i).steps.length:=by
 unfold k4;have key:∀l:List (Nat×Frac),(l.flatMap λs=>(s.1:Int)::fracRow (chance c i s.1)).length=3*l.length:=by
  intro l;induction l with
  |nil=>rfl
  |cons x r a=>
   erw[Y7,WI,a];show 3+3*r.length=3*(r.length+1);lia
 grind
def HX (K:PySem.W.Frag) (ad:bC):bE:=hy K ad (λa _=>∃i,a=[i]) (λc a _=>look c (.state (a.getD 0 0)))
def TG:bz Z Z.ED 6 HX:=by
 refine bX ["desk","numbers","row","number","steps","told","step","chance"] Z.ED λH vs Q E bF nd bg L h=>{_,(zx0 (aV 3 nd (aQ K (ah 1) aJ)) (ax (bB (b9 (cY (ji Z) (bF.mono (by decide)) dt (ah 0) (av (ah 3)))) (az (aT (bN (av (bG Z.jH))))) bI) (zx0 (aV 4 nd (aQ K (aC K (aC K (ah 0))) (ah 3))) (zx0 (aV 5 nd (bl dY (bl dY (bl dY (bN (av aJ)) (a5 (HG Z) bF (av (aQ K (aC K (aC K (ah 0))) (ah 3))))) (kn (o' (K:=K) rfl) (by rfl) Z.pb PyProof.Rows.Boot.«list» (av (aQ K (aC K (aC K (ah 0))) (ah 3))))) (bN (av (cm K Z.cf (ah 4)))))) (ax (dS Xe rfl (lJ rfl Z.lR (aD (ah 4) (av (a5 (Rh Z) bF (av (ah 4)))))) (ee (K:=K) (n:=2) rfl rfl (b0 (cG 6 nd) (b0 (cG 7 nd) ec))) (ax (dv (gS (ah 5) (av (aQ K (ah 6) aJ)))) (az (dv (ue (K:=K) rfl (ah 5) (av (ah 7))))))) (az (aT (ah 5)))))))),zi0 λ_ _=>?_};clear nd bg L;let(a,ao,N,c,nD,fT,nums,row,rfl,dx,e2,z0,bF,z1,k):=h;let(an,rfl,c0):=z0;let(i,rfl):=z1;let(b,W,ae,kz,dJ,e6):=id dx;let(b4,VH,VI,jN,nF,ix,xs,e,C):=kz;cases e;rfl';have C:=C.mono (c3 (W:=W));have out:∀ai p l,aw H ai->ai p=some (.lst (l.map V.int))->l=look c (.state i)->Q (.ref p) ai:=λai p l w a8 e=>k _ ai ((dx.mono w).more (by lia)) (ez w) (g4 a8 e);have le:∀i,look c (.state i)=encode (withState c i (stateAnswer c)):=λi=>rfl;rfl';refine aZ (j:=0) (au.of c0) rfl ?_;rfl';refine{_,_,ae,rfl,?_};refine{a,ao,N,c,i,rfl,dx,λcp M=>?_};symm;cases cp with
 |true=>
  rw[WO rfl];exact{by rw[WJ];decide,λp ai et w ag=>out ai p [-2] w ag (by rw[le,jX (M.mp rfl)];rfl)}
 |false=>
  rw[WM (by decide)];let(d,rfl,q):=me M rfl;rfl';have no:=gK dJ q;have lW:=no.bj;have nl:=ly dJ d;let(vs,TH,O):=zd C q;let(al,us,rfl,r,A):=id O;have TJ:(c.states.map λs=>V.str (a4 s.name))[d]? =some (.str (a4 (c.name d))):=by
   rw[WG,nW q];show _=some (V.str (a4 ((c.states[d]?.map λs=>s.name).getD [])));rw[nW q];rfl
  let(kN,TK,z2,VJ):=C.worth.get (i:=d) (y:=(c.node d).worth) (by rw[WG,nW q];rfl);let(FQ,rfl,TL):=z2;refine md Z.hc ae (pB Z.hc C.ins (aZ (au.of C.steps) TH ?_));rfl';refine{by rw[WJ];decide,λbn ai et w ag=>?_};refine md Z.hc (w _ _ ae) (lZ Z.hc (w _ _ C.ins) (aZ (au.of (w _ _ C.names)) TJ ?_));refine{c.name d,rfl,by lia,λln bU s3 r3=>?_};let(lM,rfl,bR):=r3;have bT:(textRow (c.name d)).length=(c.name d).length+1:=by unfold textRow;simp
  refine{_,_,s3 _ _ ag,bR,by rw[WC,bT,WJ];show 1+_<=_;lia,λi_ dj jg s4 bP=>?_};have u:=(w.trans s3).trans s4;refine md Z.hc (u _ _ ae) (uP Z.hc (u _ _ C.ins) (aZ (au.of (u _ _ C.worths)) TK ?_));refine{FQ,_,rfl,.inr (d9 u TL),λl1 dZ hg s5 cV=>?_};refine{_,_,s5 _ _ bP,cV,by rw[WJ];erw[WI,WC,WL,Yc,bT];lia,λnJ d7 rT c1 dy=>?_};have D:=(u.trans s5).trans c1;refine cw (au.of (D _ _ r)) ?_;refine{by rw[WJ];decide,λnZ gp o3 dG kP=>?_};refine{_,_,dG _ _ dy,kP,by rw[WJ];erw[WI,WC,WL,Yc,bT];lia,λT gP HY iq uK=>?_};rfl';have P:=(D.trans dG).trans iq;refine uj λd3 a9=>?_;rfl';refine{_,c,d,rfl,c8 pw _ _ _ _ P O,dJ,q,λVK F gQ r9=>?_};let(zN,ys,rfl,g,I):=r9;have HZ:H T=none:=by
   cases e:H T with
   |none=>rfl
   |some o=>rw[(D.trans dG) _ _ e]at HY;cases HY
  have B:=gQ _ _ uK;have TM:zN≠T:=λe=>by
   rw[e,B]at g;injection g with g
   injection g with g
   let(y,_,t,dn,_):=I.get' (i:=0) (x:=V.int 1) (by rw[<-g];rfl);cases dn
  have VL:al≠T:=λe=>by rw[e,HZ]at r;cases r
  have TN:∀ {t:Addr}{zs:List V},bJ K F t zs->bJ K (del F T) t zs:=by
   intro t zs h;rcases h with(h|⟨o,h⟩)|h
   ·exact .inl (.inl (by rw[bf λz=>by rw[z,B]at h;cases h];calc h))
   ·exact .inl (.inr {o,by rw[bf λz=>by rw[z,B]at h;cases h];calc h})
   ·exact .inr h
  have R:=P.trans gQ;have J:aw H (del F T):=gw HZ R;have TO:bw (eT K (del F T)) ys ((c.node d).steps.map λs=>chance c d s.1):=I.imp λv f zz=>by let(t,e,h):=zz;exact {t,e,TN h}
  have S:del F T zN=some (.lst ys):=by rw[bf TM];exact g
  have U:=J _ _ r;generalize X:(λ(m:Nat) (aa:L2.St) (G:am)=>aw (del F T) (del G T)/\G T=some (.lst (([1]++textRow (c.name d)++fracRow (c.node d).worth++[((c.node d).steps.length:Int)]++k4 c d m).map V.int))/\∃cc cU,aa=[some (V.ref a),some (V.ref an),some fT,some (V.int (d:Int)),some (V.ref al),some (V.ref T),cc,cU])=Pv;refine a9 al zN us ys F (au.of (R _ _ r)) (au.of g) (uf (xs:=us) (ys:=ys) Pv (by rw[A.1,I.1,WC]) (λm aa G p=>?_) ?_ (λm aa G x y nR aB aN p Y=>?_) λaa G p=>?_)
  ·rw[<-X]at p
   exact{au.of (bo _ _ (p.1 _ _ U)),au.of (bo _ _ (p.1 _ _ S))}
  ·rw[<-X]
   refine{aw.refl _,?_,none,none,rfl};rw[B,A.1];simp[k4,fracRow]
  ·rw[<-X]at p
   let(cg,gq,cc,cU,rfl):=p;let(s,hs,t,VM,rfl,bW,_):=A.get' aB;let(f,hf,rM,rfl,TP):=TO.get' aN;rw[WG,hs]at hf;cases hf;have jQ:=cg.trans (c2 Y);have H0:=Y _ _ gq;have TQ:=d9 (jQ.trans bo) (d9 J bW);have TR:=d9 jQ TP;have a3:=TF c d m;have bj:(([1]++textRow (c.name d)++fracRow (c.node d).worth++[((c.node d).steps.length:Int)]++k4 c d m).map V.int).length<=1000:=by
    erw[WI,WC,WL,Yc,bT];show _+2+_+_<=_;lia
   rfl';refine{{_,H0},d_ (j:=0) TQ rfl {_,H0,by rw[WJ];lia,?_}};refine{{_,aO},_,_,aO,.inr (d9 (λb o e=>?_) TR),by rw[WI,WJ];show _+1+2<=_;lia,?_}
   ·have vA:b≠T:=λz=>by rw[z,fG]at e;cases e
    rw[aK vA];exact bo _ _ e
   ·rw[<-X]
    refine{by rw[cj,cj];calc jQ,?_,_,_,rfl};rw[aO];have e:k4 c d (m+1)=k4 c d m++((s.1:Int)::fracRow (chance c d s.1)):=by
     unfold k4;rw[eh hs,aay,Y7,List.flatMap_nil,XC]
    rw[e];simp[fracRow]
  ·rw[<-X,A.1]at p
   let(cg,gq,cc,cU,rfl):=p;rfl';refine out G T _ ((J.trans cg).trans bo) gq ?_;rw[le,gd q];unfold k4;rw[XO];simp[stateAnswer,encode]
theorem zO {n:Nat}:∀(t:List Int),(∀z∈t,0<=z/\z<(n:Int))->t.mapM (λj=>index j n)=some (t.map Int.toNat)
 | [],_=>rfl
 |z::r,h=>by
  rw[List.mapM_cons,zO r λy a=>h y (WE _ a)];unfold index;rw[WO (h z (WD ..))];rfl
theorem H2 {n:Nat}:∀(t:List Int),(∃z∈t,¬(0<=z/\z<(n:Int)))->t.mapM (λj=>index j n)=none
 |z::r,⟨y,aN,h⟩=>by
  rw[List.mapM_cons];by_cases hz:0<=z/\z<(n:Int)
  ·rcases WW.mp aN with e|aN
   ·rw[e]at h
    exact absurd hz h
   ·rw[H2 r ⟨y,aN,h⟩]
    unfold index;rw[WO hz];rfl
  ·unfold index
   rw[WM hz];rfl
theorem zP:∀l:List Nat,distinct l=true↔l.Nodup
 | []=>by simp[distinct]
 |x::r=>by
  show(!r.contains x&&distinct r)=true↔_;rw[Xd,zP r,W3,XB,<-Xj,WX]
def H3 (K:PySem.W.Frag) (ad:bC):bE:=hy K ad (λa row=>(∃i,a=[i])/\row.length<=2000) (λc a row=>look c (.steps (a.getD 0 0) row))
def TS:bz Z Z.EI 6 H3:=by
 refine d0 ["desk","numbers","row","number"] Z.EI (λbF nd bg h2=>(ax (bB (b9 (cY (ji Z) (bF.mono (by decide)) dt (ah 0) (av (aQ K (ah 1) aJ)))) (az (aT (bN (av (bG Z.jH))))) bI) (zx0 (bB (dP.pt (kf (b9 (gm (CW (K:=K) rfl rfl) (by rfl) Z.ES PyProof.Rows.Boot.«any» (av (dz rfl nd (cH K (ah 2)) (cM (own:=[("number",3)]) (by kernel_rfl)) (λ_ _ _ _ _=>b3 3 nd) (λ_ _ _ _ _=>dh) (λ_ _ _ _ _=>ck (cY (ji Z) (bF.mono (by decide)) dt (ah 0) (av (ah 3)))))))) (ke (b1 io (gm M7 (by rfl) Z.cf PySem.boot_len (av (kn (M5 (K:=K) rfl rfl) (by rfl) Z.Ng PyProof.Rows.Boot.«set» (av (ah 2))))) (cm K Z.cf (ah 2)) (bZ _))))) (az (aT (bN (av (bG Z.Ny))))) bI) (ax (bB (b9 (a5 (G9 Z) bF (aD (aC K (ah 0)) (aD (aQ K (ah 1) aJ) (av (ah 2)))))) (az (aT (bN (av (bG Z.x'))))) bI) (az (aT (bl dY (bN (av aJ)) (kn (o' (K:=K) rfl) (by rfl) Z.pb PyProof.Rows.Boot.«list» (av (a5 (R' Z) bF (aD (aC K (ah 0)) (aD (aQ K (ah 1) aJ) (av (ah 2)))))))))))))) λH vs Q E h=>?_;let(a,ao,N,c,nD,fT,nums,row,rfl,dx,e2,z0,z1,z2,k):=h;let(an,rfl,c0):=z0;let(e4,rfl,o):=z1;let(z3,VN):=z2;let(i,rfl):=z3;let(b,W,ae,kz,I,J):=id dx;have cF:=cJ I;have jf:c.size<=24:=I.bj;have out:∀ai p l,aw H ai->ai p=some (.lst (l.map V.int))->l=look c (.steps i row)->Q (.ref p) ai:=λai p l m a8 e=>k _ ai ((dx.mono m).more (by lia)) (ez m) (g4 a8 e);have le:∀i,look c (.steps i row)=encode (withState c i λi=>stepsAnswer c i row):=λi=>rfl;rfl';refine{_,_,ae,rfl,aZ (j:=0) (au.of c0) rfl ?_};refine{a,ao,N,c,i,rfl,dx,λcp L=>?_};symm;cases cp with
 |true=>
  rw[WO rfl];exact{by rw[WJ];decide,λp ai et m ag=>out ai p [-2] m ag (by rw[le,jX (L.mp rfl)];rfl)}
 |false=>
  rw[WM (by decide)];let(C,rfl,u):=me L rfl;rfl';refine er (K:=K) (R:=λ_ v z=>v=V.aG z) (λ_ _ _ _ _ h=>h) (row.map λz=>decide (¬(0<=z/\z<(c.size:Int)))) (by rw[WC,WJ];lia) λQd hd=>?_;rfl';refine hd e4 _ H (au.of o) (by rw[WC,WC]) (λj x z G dI s hz cg q=>?_) λD H1 us fH s1 TU r1=>?_
  ·rw[WG]at s hz
   cases a':row[j]? with
   |none=>rw[a']at s;cases s
   |some y=>
    rw[a']at s hz;cases s;cases hz;rfl';refine{_,_,cg _ _ ae,rfl,a,ao,N,c,y,rfl,dx.mono cg,λb4 TV=>q _ G (aw.refl _) ?_};show V.aG _=V.aG _;congr 1;rw[Xu,TV,decide_eq_true_eq]
  ·have r1:=ew (f:=V.aG) r1
   subst r1;refine{D,_,rfl,au.of TU,?_};rw[zt];refine ?_;symm;have M:(∃z∈row,¬(0<=z/\z<(c.size:Int)))\/((∀z∈row,0<=z/\z<(c.size:Int))/\¬(row.map Int.toNat).Nodup)-> [-5]=look c (.steps (C:Int) row):=by
    intro O;rw[le,gd u];unfold stepsAnswer;rcases O with O|⟨O,hd⟩
    ·rw[H2 row O]
     rfl
    ·rw[zO row O]
     show _=encode (if distinct (row.map Int.toNat)=false then refused (-5) else _);rw[WO (by rw[<-Xj,zP];calc hd)];rfl
   cases df:row.any (λz=>decide (¬(0<=z/\z<(c.size:Int)))) with
   |true=>
    rw[WO rfl];let(z,fK,eW):=Yy.mp df;exact{by rw[WJ];decide,λp ai et m ag=>out ai p [-5] (s1.trans m) ag (M (.inl {z,fK,Zt eW}))}
   |false=>
    rw[WM (by decide)];have r:∀z∈row,0<=z/\z<(c.size:Int):=λz hz=>WR λy=>by
     have:row.any (λz=>decide (¬(0<=z/\z<(c.size:Int))))=true:=Yy.mpr {z,hz,Xm y};rw[df]at this;cases this
    have A:row=(row.map Int.toNat).map λj:Nat=>(j:Int):=by
     rw[Xg];conv=>lhs;rw[<-Y_ row]
     refine Xs λz hz=>?_;have:=r z hz;show z=((z.toNat:Nat):Int);lia
    have nd:row.Nodup↔(row.map Int.toNat).Nodup:=by
     constructor
     ·intro h
      refine List.Pairwise.map _ (λx y w=>w) (List.Pairwise.imp_of_mem (S:=λx y:Int=>x.toNat≠y.toNat) (λs aN w e=>w ?_) h);have ae:=r _ s;have ag:=r _ aN;lia
     ·intro h
      rw[A];exact List.Pairwise.map _ (λx y w e=>w (by lia)) h
    refine{e4,row,rfl,au.of (s1 _ _ o),by lia,λbn S n et P hle=>?_};refine{bn,S,n,rfl,aO,?_};have m:aw H (upd H1 bn (.set S n)):=s1.trans (fi et);generalize upd H1 bn (.set S n)=ai at m;refine cw (au.of (m _ _ o)) ?_;symm;rw[WC];by_cases T:(n:Int)<(row.length:Int)
    ·rw[WO T]
     have TX:¬row.Nodup:=λz=>by have:=P.mpr z;lia
     exact{by rw[WJ];decide,λp bU kR s3 bR=>out bU p [-5] (m.trans s3) bR (M (.inr {r,λz=>TX (nd.mpr z)}))}
    ·rfl';rw[WM T]
     rfl';have B:(row.map Int.toNat).Nodup:=nd.mp (P.mp (by lia));generalize dW:row.map Int.toNat=g at*;have gl:∀x∈g,x<c.size:=λx s=>by
      rw[<-dW]at s;let(z,hz,e):=WT.mp s;have:=r z hz;nofun
     have U:g.length<=24:=by
      have:=eA g (List.range c.size) B λx s=>WN.mpr (gl x s);rw[W0]at this;lia
     have TY:row.map V.int=bM g:=by rw[A,Xg];rfl
     have X:look c (.steps (C:Int) row)=encode (orRefused (stepsTo c C g) (-6)):=by
      rw[le,gd u];unfold stepsAnswer;rw[zO row r,dW];show encode (if distinct g=false then _ else _)=_;rw[WM (by rw[(zP g).mpr B];decide)]
     rw[TY]at o;refine gc Z.hc (m _ _ ae) (aZ (j:=0) (au.of (m _ _ c0)) rfl ?_);refine{W,N,c,C,_,g,rfl,J.mono m,I,u,{e4,rfl,m _ _ o},gl,U,λbU ih s3 Y=>?_};symm;have H4:=m.trans s3;cases ih with
     |true=>
      rw[WO rfl];exact{by rw[WJ];decide,λp dj jg s4 bP=>out dj p [-6] (H4.trans s4) bP (by rw[X,Ir cF u (Y.mp rfl)];rfl)}
     |false=>
      rw[WM (by decide)];have F:¬fM c g C:=λz=>by have:=Y.mpr z;cases this
      refine{by rw[WJ];decide,λp dj jg s4 bP=>?_};have d:=H4.trans s4;refine gc Z.hc (d _ _ ae) (aZ (j:=0) (au.of (d _ _ c0)) rfl ?_);refine{W,N,c,C,_,g,rfl,J.mono d,by lia,I,u,{e4,rfl,d _ _ o},gl,U,F,λv dZ f k5 hf r5=>?_};let(t,rfl,bW):=n1 r5;refine{t,_,rfl,.inr bW,λnJ d7 rT c1 dy=>?_};have TZ:=iD (J.mono d) k5;refine{_,_,c1 _ _ (TZ.lst bP),dy,by rw[WJ];show 1+2<=16777216;decide,λnZ gp o3 dG kP=>?_};have H5:=(k5.then c1).then dG;refine k _ gp (n2 (d _ _ ae) (gz _ _ _ _ (eH d) kz) I (J.mono d) H5) (sx (ez d) (iD (J.mono d) H5)) (g4 (l:=[1,f.num,(f.den:Int)]) kP ?_);show _=look c (.steps (C:Int) row);rw[X,hf];rfl
def H6:bt:=λK ad vs H Q _=>∃a ao N s v bs,vs=[.ref a,v]/\fJ K ad a ao N s H/\pc K H v bs/\bs.length<=8192/\
 ∀b ai,iC H ai->(match Vaprbq.read bs with
  | .ok c=>fJ K ad a ao N (some c) ai/\cZ ai b [1]
  | .error f=>fJ K ad a ao N s ai/\cZ ai b [0,(f.code:Int),(f.place:Int)])->Q b ai
def T1:bz Z Z.EA 10 H6:=by
 refine bX ["desk","text","chain","fault"] Z.EA λH vs Q E n nd O q h=>{_,(zx0 (L5 (i:=3) Z.e5 rfl ⟨rfl,rfl⟩ nd rfl rfl rfl Z.f7 (λkC VO VP out=>have r:=xK out;(az (aV 2 nd (f6 (PS Z) n r (av (ah 1)))))) (λ_=>(az (aT (bN (aD aJ (aD (CA (ah 3) Z.e5.Co Z.e5.LI rfl) (av (CA (ah 3) Z.e5.Co Z.e5.LJ rfl))))))))) (zx0 (cN K (ah 0) (ah 2)) (zx0 (cN K (ah 0) (a5 (RI Z) n (av (ah 2)))) (az (aT (bN (av aJ))))))),zi0 λ_ _=>?_};clear nd O q;let(a,ao,N,s,v,bs,rfl,P,R,hlen,k):=h;rfl';refine{λT2 d aj=>∃f ao,Vaprbq.read bs= .error f/\T2= .ref ad.Fault/\d=some ao/\aw H aj/\aj ao=some (.g8 [("code",.int (f.code:Int)),("place",.int (f.place:Int))]),?_,?_}
 ·rfl'
  refine{v,bs,rfl,R,?_};cases n:Vaprbq.read bs with
  |error f=>calc λao ai M ag=>⟨f,rfl,rfl,ao,rfl,M,ag⟩
  |ok c=>
   intro u ai M O;let(w,dJ):=O;let(S,_,_,_,_,_,_,rfl,_):=id w;obtain⟨x,y,af⟩:∃x y,H a=some (.ins ad.Desk ao [("chain",x),("walk",y)]):=by
    cases s with
    |none=>calc{_,_,P}
    |some vH=>let(b,W,ae,_):=P;exact{_,_,ae}
   rfl';have A:=M _ _ af;have H7:eV ad ai a:={_,_,_,A};refine cO A Z.hc.desk (by simp) (by show 2<1000;decide) ?_;generalize h3:upd ai a _=G;rfl';have j0:G a=some (.ins ad.Desk ao [("chain",.ref S),("walk",y)]):=by rw[<-h3];exact aO
   have B:aw (del ai a) G:=λb o e=>by
    have C:b≠a:=λz=>by rw[z,fG]at e;cases e
    rw[<-h3,aK C];rw[bf C]at e;exact e
   have j:=gz _ _ _ _ B (HB H7 w);refine{_,c,rfl,j,dJ,λW T U bR=>?_};have D:=c3 _ _ (U _ _ j0);have l:eV ad T a:={_,_,_,D};refine cO D Z.hc.desk (by simp) (by show 2<1000;decide) ?_;generalize F:upd T a _=vn;rfl';have xJ:vn a=some (.ins ad.Desk ao [("chain",.ref S),("walk",.ref W.a)]):=by simp only[<-F];exact aO
   have m:aw (del T a) vn:=λb o e=>by
    have C:b≠a:=λz=>by rw[z,fG]at e;cases e
    rw[<-F,aK C];rw[bf C]at e;exact e
   have V:=(bR.off l).mono m;have g:=HB (l.cut bR) (gz _ _ _ _ U j);rw[<-vy]at g;have g:=gz _ _ _ _ (eH (W:=W) m) g;refine{by rw[WJ];decide,λp X hg I Y=>k _ X (λb o t e=>?_) ?_}
   ·exact I _ _ (m _ _ (l.HD t (c3 _ _ (U _ _ (B _ _ (H7.HD t (M _ _ e)))))))
   ·rw[n]
    have T3:fJ K ad a ao 0 (some c) vn:=⟨S,W,xJ,g,dJ,V⟩;exact{(T3.mono I).more (Xk _),⟨p,rfl,Y⟩}
 ·rintro e d aj ⟨f,VQ,n,_,hd,s',aB⟩ ne
  cases hd;have J:upd aj e (kE ad.Fault e d) e=_:=aO;have T4:d≠e:=λz=>by erw[z,ne]at aB;cases aB
  have L:upd aj e (kE ad.Fault e d) d=_:=(aK T4).trans aB;refine{e,d,_,_,rfl,J,L,rfl,?_};symm;refine{e,d,_,_,rfl,J,L,rfl,?_};refine{by erw[WJ];show 3<=16777216;decide,λp X hg I Y=>k _ X (ez ((s'.trans (fi ne)).trans I)) ?_};rw[n];calc{P.mono ((s'.trans (fi ne)).trans I),⟨p,rfl,Y⟩}
end
section
open Vaprbq (Chain Node Answer)
theorem vB {α:Type} (f:α->List Int) (B:Nat):∀l:List α,(∀x∈l,(f x).length<=B)->(l.flatMap f).length<=l.length*B
 | [],_=>by simp
 |x::r,h=>by
  have ae:=h x (WD ..);have ag:=vB f B r λy a=>h y (WE _ a);erw[Y7,WI,WL,Y8];lia
def jY {c:Chain}{i:Int}{f:Nat->Answer}{n:Nat} (h:∀j,j<c.size->(f j).rest.length<=n):(withState c i f).rest.length<=n:=by
 unfold withState;split
 ·rename_i j e
  unfold index at e;split at e;cases e;calc h _ (by lia);cases e
 ·calc Xk _
def H8 {c:Chain}{k:Int}{f:List Nat->Answer}{n:Nat} (h:∀l∈Vaprbq.classes c,(f l).rest.length<=n):(withClass c k f).rest.length<=n:=by
 unfold withClass;split
 ·rename_i l e
  let(j,_,a):=Option.bind_eq_some_iff.mp e;grind
 ·calc Xk _
def zQ (f:Frac):(fracAnswer f).rest.length<=20000:=by show 2<=20000;decide
def zR (f:Option Frac) (n:Int):(orRefused f n).rest.length<=20000:=by
 cases f with
 |none=>calc Xk _
 |some f=>calc zQ f
def zS {l:List Frac} (h:l.length<=24):(sharesAnswer l).rest.length<=20000:=by
 have:=vB fracRow 2 l λf _=>W2 2;show(l.flatMap fracRow).length<=20000;lia
def H9 {c:Chain} (a:aY c) {l:List Nat} (h:l∈Vaprbq.classes c):l.length<=24:=by
 unfold Vaprbq.classes at h;let(i,af,e):=Yu.mp h;have hc:(classOf c i).length<=24:=by
  unfold classOf;refine W1 (YY _ _) ?_;unfold numbers;rw[W0];exact a.bj
 nofun
theorem H_:∀(n k:Nat) (m:Vaprbq.Matrix),(Vaprbq.cleared n k m).length=m.length
 |0,_,_=>rfl
 |n+1,k,m=>(H_ n (k+1) (Vaprbq.clear m k)).trans (n6 m k)
def T5 {c:Chain} (a:aY c) (k:Vaprbq.Call):(look c k).length<=20001:=by
 have d:c.size<=24:=a.bj;show(looked c k).rest.length+1<=20001;refine Nat.succ_le_succ ?_;cases k with
 |load b=>calc Xk _
 |shown=>
  show(c.shown.map _).length<=20000;rw[WC];calc FV a
 |sizes=>show 2<=20000;decide
 |state i=>
  refine jY λj f=>?_;have ae:=ly a j;have ag:=vB (λs:Nat×Frac=>(s.1:Int)::fracRow (chance c j s.1)) 3 (c.node j).steps λ_ _=>W2 3;have g:(c.node j).steps.length<=8:=by
   unfold Vaprbq.Chain.node;cases e:c.states[j]? with
   |none=>calc Xk _
   |some s=>exact(a.nodes s (WS e)).bj
  unfold stateAnswer textRow;erw[WI,WL,WC];have h:(fracRow (c.node j).worth).length=2:=rfl;lia
 |after i n=>
  refine jY λj f=>?_;show(if n<0\/(AFTER:Int)<n then refused (-5) else sharesAnswer (sharesAfter c n.toNat (Vaprbq.at_ c j))).rest.length<=20000;split
  ·exact Xk _
  ·exact zS (by rw[(oE c j _).1];calc d)
 |come i j=>calc jY λ_ _=>jY λ_ _=>zQ _
 |back j=>calc jY λ_ _=>zQ _
 |visits i j=>calc jY λ_ _=>jY λ_ _=>zR _ _
 |steps i t=>
  refine jY λj f=>?_;unfold stepsAnswer;split
  ·exact Xk _
  ·split
   ·exact Xk _
   ·calc zR _ _
 |gain i=>calc jY λ_ _=>zR _ _
 |classes=>
  have ae:=zA a;have ag:=vB (λl:List Nat=>(if Vaprbq.closed c l=true then(1:Int) else 0)::(l.length:Int)::l.map λ(i:Nat)=>(i:Int)) 26 (Vaprbq.classes c) λl hl=>by
   have:=H9 a hl;nofun
  show((Vaprbq.classes c).flatMap _).length<=20000;lia
 |steady k=>
  refine H8 λl hl=>?_;show(if Vaprbq.closed c l=false then refused (-7) else sharesAnswer (Vaprbq.steady c l)).rest.length<=20000;split
  ·exact Xk _
  ·refine zS ?_
   unfold Vaprbq.steady solve;rw[WC,H_,WC,List.length_zipIdx];calc H9 a hl
 |long i=>
  refine jY λj f=>zS ?_;unfold Vaprbq.long numbers;nofun
 |period k=>calc H8 λl hl=>Xk _
def T6 {s:Option Chain} (a:∀c,s=some c->aY c) (k:Vaprbq.Call):(encode (Vaprbq.step ⟨s⟩ k).2).length<=20001:=by
 cases k with
 |load b=>
  show(Vaprbq.step ⟨s⟩ (.load b)).2.rest.length+1<=20001;unfold Vaprbq.step;grind
 |_=>
  cases s with
  |none=>show 0+1<=20001;decide
  |some c=>calc T5 (a c rfl) _
end
section
variable {P:Program}{w:World}{K:PySem.W.Frag}{mg:Str->Option Value}{base:Heap}{ad:bC}{bx:hk} (Z:fS P w K mg base ad bx)
def sy (K:PySem.W.Frag) (ad:bC) (f:Nat->Addr):List (Addr×bE):=[(f 1,HS K ad),(f 2,HT K ad),(f 3,HX K ad),(f 4,HM K ad),(f 5,HH K ad),(f 6,HI K ad),(f 7,HJ K ad),(f 8,H3 K ad),(f 9,HK K ad),(f 10,HV K ad),(f 11,HP K ad),(f 12,HL K ad),(f 13,HQ K ad)]
def T7:bt:=λK ad vs H Q _=>∃a ao N s p c d b row k,vs=[.ref a,.int p,c,d]/\fJ K ad a ao N s H/\N<=900/\cZ H c b/\cZ H d row/\n5 p b row k/\
 ∀v ai,fJ K ad a ao (N+1) (Vaprbq.step ⟨s⟩ k).1.chain ai->iC H ai->cZ ai v (encode (Vaprbq.step ⟨s⟩ k).2)->Q v ai
def h4 {x:Str}{ps:List Str}{k:Nat}{sp:bE}{g:Addr} (c:hi P w K mg base dB k x ps sp) (h:mg x=some (.ref g)) (z:k<=10):∃fd,dU P w K mg base dB 10 g fd ps sp/\keepIn K (.ref g)=true/\Binds K fd ps []:=by
 let(f,fd,F,e,cL,b):=c;rw[h]at e;cases e;calc{fd,F.mono z,cL,b}
def T8 (Z:fS P w K mg base ad bx):∀f sp,(f,sp)∈sy K ad bx.fn->∃fd,dU P w K mg base dB 10 f fd ["desk","numbers","row"] sp/\keepIn K (.ref f)=true/\Binds K fd ["desk","numbers","row"] []:=by
 intro f sp h;unfold sy at h;erw[WW,Z8,or_false,Prod.mk.injEq]at h;rcases h with⟨rfl,rfl⟩|⟨rfl,rfl⟩|⟨rfl,rfl⟩|⟨rfl,rfl⟩|⟨rfl,rfl⟩|⟨rfl,rfl⟩|⟨rfl,rfl⟩|⟨rfl,rfl⟩|⟨rfl,rfl⟩|⟨rfl,rfl⟩|⟨rfl,rfl⟩|⟨rfl,rfl⟩|⟨rfl,rfl⟩
 ·exact h4 (Tx Z) Z.ND (by decide)
 ·exact h4 (Tz Z) Z.NE (by decide)
 ·exact h4 (TG Z) Z.NF (by decide)
 ·exact h4 (Tt Z) Z.NG (by decide)
 ·exact h4 (To Z) Z.NH (by decide)
 ·exact h4 (Tp Z) Z.NI (by decide)
 ·exact h4 (Tq Z) Z.NJ (by decide)
 ·exact h4 (TS Z) Z.NK (by decide)
 ·exact h4 (Tr Z) Z.NL (by decide)
 ·exact h4 (TB Z) Z.NM (by decide)
 ·exact h4 (Tu Z) Z.NN (by decide)
 ·exact h4 (Ts Z) Z.NO (by decide)
 ·calc h4 (Tv Z) Z.NP (by decide)
def T9:bz Z Z.EO 11 T7:=by
 refine d0 ["desk","call","numbers","row"] Z.EO (λg nd P l=>(ax (bB (b1 (fF (K:=K) rfl l) (ah 1) (bG Z.No) (bZ _)) (az (aT (a5 (T1 Z) g (aD (ah 0) (av (ah 3)))))) bI) (ax (bB (iZ (AD (aC K (ah 0)))) (az (aT (bN (av (bG Z.Nx))))) bI) (az (aT (My (sy K ad bx.fn) (T8 Z) (g.mono (by decide)) (w8 (CN Z.EZ) (xM Z.EZ rfl) (ah 1) (λ_ _=>rfl)) (aD (ah 0) (aD (ah 2) (av (ah 3)))))))))) λH vs Q E h=>?_;let(a,ao,N,s,p,y,u,d,row,k,rfl,n,A,B,g,ak,e):=h;rfl';have go:∀(j:Nat) (ok:List Int->List Int->Prop) (f:Chain->List Int->List Int->List Int),p=(j:Int)->(bx.fn j,hy K ad ok f)∈sy K ad bx.fn->(x4 bx.fn).lookup (j:Int)=some (.ref (bx.fn j))->ok d row->j≠0->(∀c,Vaprbq.step {some c} k=({some c},looked c k))->Vaprbq.step ⟨none⟩ k=(⟨none⟩,refused (-1))->(∀c,f c d row=look c k)->
   (if p=0 then H6 K ad [V.ref a,u] H Q ry
    else ed K (Str.ofString "chain") a H λx H1=>
     if x=V.bb then 1<=sizeLine/\∀(p:Addr) (ai:am),H1 p=none->aw H1 ai->ai p=some (bH.lst [V.int (-1)])->Q (V.ref p) ai
     else xT (sy K ad bx.fn) (m3 (xN bx.x5 (x4 bx.fn)) (iY (V.ref bx.x5)) (mY 1)) (m5 (mY 0) (m5 (mY 2) (m5 (mY 3) km))) [some (V.ref a),some (V.int p),some y,some u] H1 Q):=by
  intro j ok f C D hl F R hs o G;subst C;rw[WM (by nofun)];cases s with
  |none=>
   refine md Z.hc n ?_;rw[WO rfl];refine{by rw[WJ];decide,λq ai S z ag=>e _ ai ?_ (ez z) ?_}
   ·rw[o]
    exact(n.mono z).more (aaq N)
   ·rw[o]
    calc⟨q,rfl,ag⟩
  |some c=>
   let(b,W,ae,_):=id n;refine md Z.hc ae ?_;rw[WM (by simp)];unfold xT xN;rfl';refine{_,hl,_,rfl,_,D,a,ao,N,c,y,u,d,row,rfl,n,A,B,g,F,λv ai ae ag I=>e v ai ?_ ag ?_}
   ·rw[hs c];exact ae
   ·rw[hs c]
    show cZ ai v (look c k);rw[<-G c];exact I
 cases k with
 |load b=>
  let(rfl,rfl,rfl,J):=ak;rw[WO rfl];let(M,rfl,w):=g;refine{a,ao,N,s,_,b,rfl,n,{M,rfl,au.of (by rw[w,Xg];rfl)},J,λO ai L m=>?_};have e:=e O ai;unfold Vaprbq.step at e;dsimp only at e;cases r:Vaprbq.read b with
  |ok c=>
   rw[r]at m e;calc e (m.1.more (aaq N)) L m.2
  |error f=>
   rw[r]at m e;calc e (m.1.more (aaq N)) L m.2
 |shown=>
  let(rfl,rfl):=ak;calc go 1 _ _ rfl (.head _) rfl (rfl) (by decide) (λ_=>rfl) rfl λ_=>rfl
 |sizes=>
  let(rfl,rfl):=ak;calc go 2 _ _ rfl (.tail _ (.head _)) rfl (rfl) (by decide) (λ_=>rfl) rfl λ_=>rfl
 |state i=>
  let(rfl,rfl):=ak;calc go 3 _ _ rfl (.tail _ (.tail _ (.head _))) rfl ({_,rfl}) (by decide) (λ_=>rfl) rfl λ_=>rfl
 |after i j=>
  let(rfl,rfl):=ak;calc go 4 _ _ rfl (.tail _ (.tail _ (.tail _ (.head _)))) rfl ({_,_,rfl}) (by decide) (λ_=>rfl) rfl λ_=>rfl
 |come i j=>
  let(rfl,rfl):=ak;calc go 5 _ _ rfl (.tail _ (.tail _ (.tail _ (.tail _ (.head _))))) rfl ({_,_,rfl}) (by decide) (λ_=>rfl) rfl λ_=>rfl
 |back i=>
  let(rfl,rfl):=ak;calc go 6 _ _ rfl (.tail _ (.tail _ (.tail _ (.tail _ (.tail _ (.head _)))))) rfl ({_,rfl}) (by decide) (λ_=>rfl) rfl λ_=>rfl
 |visits i j=>
  let(rfl,rfl):=ak;calc go 7 _ _ rfl (.tail _ (.tail _ (.tail _ (.tail _ (.tail _ (.tail _ (.head _))))))) rfl ({_,_,rfl}) (by decide) (λ_=>rfl) rfl λ_=>rfl
 |steps i t=>
  let(rfl,rfl,rfl,hl):=ak;calc go 8 _ _ rfl (.tail _ (.tail _ (.tail _ (.tail _ (.tail _ (.tail _ (.tail _ (.head _)))))))) rfl ({{_,rfl},hl}) (by decide) (λ_=>rfl) rfl λ_=>rfl
 |gain i=>
  let(rfl,rfl):=ak;calc go 9 _ _ rfl (.tail _ (.tail _ (.tail _ (.tail _ (.tail _ (.tail _ (.tail _ (.tail _ (.head _))))))))) rfl ({_,rfl}) (by decide) (λ_=>rfl) rfl λ_=>rfl
 |classes=>
  let(rfl,rfl):=ak;calc go 10 _ _ rfl (.tail _ (.tail _ (.tail _ (.tail _ (.tail _ (.tail _ (.tail _ (.tail _ (.tail _ (.head _)))))))))) rfl (rfl) (by decide) (λ_=>rfl) rfl λ_=>rfl
 |steady i=>
  let(rfl,rfl):=ak;calc go 11 _ _ rfl (.tail _ (.tail _ (.tail _ (.tail _ (.tail _ (.tail _ (.tail _ (.tail _ (.tail _ (.tail _ (.head _))))))))))) rfl ({_,rfl}) (by decide) (λ_=>rfl) rfl λ_=>rfl
 |long i=>
  let(rfl,rfl):=ak;calc go 12 _ _ rfl (.tail _ (.tail _ (.tail _ (.tail _ (.tail _ (.tail _ (.tail _ (.tail _ (.tail _ (.tail _ (.tail _ (.head _)))))))))))) rfl ({_,rfl}) (by decide) (λ_=>rfl) rfl λ_=>rfl
 |period i=>
  let(rfl,rfl):=ak;calc go 13 _ _ rfl (.tail _ (.tail _ (.tail _ (.tail _ (.tail _ (.tail _ (.tail _ (.tail _ (.tail _ (.tail _ (.tail _ (.tail _ (.head _))))))))))))) rfl ({_,rfl}) (by decide) (λ_=>rfl) rfl λ_=>rfl
def H' {xs:List V}{a n:Nat} (h:a+n<=xs.length):ha xs (some ((a:Nat):Int)) (some ((a+n:Nat):Int))=(xs.drop a).take n:=by
 unfold ha;simp only[eF.oV,eF.oV,Zs h,Zs (show a<=xs.length by lia),ZR]
def zT (K:PySem.W.Frag):bE:=λvs H Q _=>∃a l,vs=[.ref a]/\au K H a (l.map V.int)/\answers_asked l=true/\∀v ai,cZ ai v (PyVaprbq.answers l)->Q v ai
def T_ (K:PySem.W.Frag) (ad:bC):bE:=zT K
def T' {f:Addr}{fd:FuncData} (D:ir K "answers" "answers" (top 144) f fd) (Z:fS P w K mg base ad bx):dU P w K mg base dB 12 f fd ["calls"] (T_ K ad):=by
 refine M8 ["calls","desk","told","at","call","row_at","numbers","row","answer"] D (λbF nd bg h2=>(ax (aV 1 nd (Mx (Tg Z) (bF.mono (by decide)) rfl dt)) (ax (aV 2 nd (bN i4)) (ax (aV 3 nd aJ) (zx0 (hK Xe (b1 io (ah 3) (cm K Z.cf (ah 0)) (bZ _)) (ax (aV 4 nd (aQ K (ah 0) (ah 3))) (ax (aV 5 nd (bl dY (bl dY (ah 3) aJ) (aQ K (ja Z.EY rfl) (ah 4)))) (ax (aV 6 nd (jz (jF (K:=K) rfl) (ah 0) (gO (bl dY (ah 3) aJ)) (gO (ah 5)))) (ax (aV 7 nd (bN i4)) (ax (aV 3 nd (ah 5)) (ax (bB (b1 (k_in (K:=K) rfl) (ah 4) (ja Z.EU rfl) rfl) (ax (aV 3 nd (bl dY (bl dY (ah 5) aJ) (aQ K (ah 0) (ah 5)))) (az (aV 7 nd (jz (jF (K:=K) rfl) (ah 0) (gO (bl dY (ah 5) aJ)) (gO (ah 3)))))) bI) (ax (aV 8 nd (ck (a5 (T9 Z) bF (aD (ah 1) (aD (ah 4) (aD (ah 6) (av (ah 7)))))))) (ax (dv (gS (ah 2) (av (cm K Z.cf (ah 8))))) (az (dv (ue (K:=K) rfl (ah 2) (av (ah 8)))))))))))))) (az (aT (ah 2)))))))) λH vs Q E h=>?_;let(y,l,rfl,hl,a,k):=h;let(cs,g,r,has,u):=z0 a;rfl';intro d ao nd N Ua;refine{d,ao,rfl,aO,rfl,Xk _,λT H1 jE s1 X=>?_};rw[gk]at jE s1;rfl';have Ia:aw H H1:=λb o e=>s1 _ _ (by rw[aK (cT e nd),aK (cT e N)];calc e);have O:upd (upd H ao (.own d)) d (.ins ad.Desk ao [("chain",.bb),("walk",.bb)]) d=_:=aO;have d6:d≠T:=cT O jE;have Ib:H T=none:=by
  cases e:H T with
  |none=>rfl
  |some o=>
   rw[aK (cT e nd),aK (cT e N),e]at jE;cases jE
 have nP:aw H (del H1 T):=λb o e=>by
  rw[bf (cT e Ib)];exact Ia _ _ e
 have Ub:au K (del H1 T) y (l.map V.int):=(ez nP).vz hl;have Uc:fJ K ad d ao 0 none (del H1 T):=(bf d6).trans (s1 _ _ O);clear Ia nP Ib O nd N Ua s1 jE hl;generalize eS:(λ(m:Nat) (aa:L2.St) (G:am)=>∃(at_ i:Nat) (acc:List Int) (s:Option Chain) (f:Nat) (rest:List (List (List Int))) (sA sB Y pX J:Option V),aa=[some (.ref y),some (.ref d),some (.ref T),some (.int (at_:Int)),sA,sB,Y,pX,J]/\PyFlat.calls shape f (l.drop at_)=some rest/\at_<=l.length/\(∀c∈rest,asked1 c=true)/\i+rest.length<=400/\G T=some (.lst (acc.map V.int))/\acc.length<=i*20002/\fJ K ad d ao i s (del G T)/\au K (del G T) y (l.map V.int)/\PyVaprbq.answers l=acc++told (played VaprbqNeutral.step ⟨s⟩ rest)/\m=rest.length)=Pv;refine kJ Pv (λaa G=>∃d8 sA sB Y pX J,aa=[some (.ref y),some (.ref d),some (.ref T),d8,sA,sB,Y,pX,J]/\G T=some (.lst ((PyVaprbq.answers l).map V.int))) cs.length ?_ ?_ ?_
 ·rw[<-eS]
  exact{0,0,[],none,_,cs,_,_,_,_,_,rfl,g,Xk _,has,by lia,X,Xk _,Uc,Ub,u,rfl}
 ·rintro aa G ⟨d8,sA,sB,Y,pX,J,rfl,h3⟩
  rfl';exact k _ G ⟨T,rfl,h3⟩
 ·intro m aa G h C uS tY
  rw[<-eS]at h;let(at_,i,acc,s,f,rest,sA,sB,Y,pX,J,rfl,g,FX,has,r,X,VR,dx,hl,u,rfl):=h;rfl';have z:au K G y (l.map V.int):=(ez bo).vz hl;refine cw z ?_;symm;rw[WC];by_cases R:at_<l.length
  case neg=>
   rw[Xl (by lia)];rw[List.drop_eq_nil_of_le (by lia)]at g;rw[Io g]at u;refine tY G {_,_,_,_,_,_,rfl,?_};rw[X,u];show _=some (bH.lst ((acc++[]).map V.int));rw[XC]
  case pos=>
   rw[Xm (by lia)];refine uS G ?_;obtain⟨p,a8⟩:∃p,l[at_]? =some p:={_,WK R};have Ud:l.drop at_=p::l.drop (at_+1):=by
    rw[X5 R];rw[WK R]at a8;rw[Xw a8]
   rw[Ud]at g;let(c,t,Ue,S,Uf,Ug,rfl):=Im g;let(q,j,a9,n,rfl,a',c0,FR,Uh):=step_call Uf (has c (WD ..));rw[W5]at FR;show eL ?VS (eL ?VT (eL ?VU (eL ?VV (eL ?VW (eL ?_f ?Ui))))) ?pC ?rR ?rS;generalize iy: ?Ui=B;generalize xj: ?pC=Ic;generalize gV: ?_f=F;show eL ?VX ?Uj ?VY ?VZ ?V0;generalize Uk: ?Uj=V1 at⊢;rfl';refine aZ z (by rw[WG,a8];rfl) ?_;subst Uk;show eL ?V2 ?Ul ?V3 ?V4 ?V5;generalize Um: ?Ul=dr at⊢;rfl';have e2:bJ K G bx.Df (vJ.map V.int):=Z.EY.2 G;refine d_ e2 (v:=V.int (n:Int)) (by rw[WG,c0];rfl) ?_;show dr Ic [some (V.ref y),some (V.ref d),some (V.ref T),some (V.int at_),some (V.int j),some (V.int ((at_:Int)+1+(n:Int))),Y,pX,J] G;rw[show(at_:Int)+1+(n:Int)=((at_+1+n:Nat):Int) by lia];subst Um;show eL ?V6 ?Un ?V7 ?V8 ?V9;generalize Uo: ?Un=V_ at⊢;rfl';refine{_,z,λpn bU kR s3 bR=>?_};rw[show(at_:Int)+1=((at_+1:Nat):Int) by lia,H' (by rw[WC];lia),<-aah,<-aa4]at bR;subst Uo;show eL ?V' (eL ?Wa (eL F ?Wb)) ?Wc ?Wd ?We;rfl';refine{Xk _,λA dj jg s4 bP=>?_};have L:∀(x:Nat) (row:List Int) (A:Addr) (d7:am),aw G d7->G A=none->d7 A=some (.lst (row.map V.int))->d7 pn=some (.lst (((l.drop (at_+1)).take n).map V.int))->x<=l.length->l.drop x=t->n5 (j:Int) ((l.drop (at_+1)).take n) row q->
     B Ic [some (V.ref y),some (V.ref d),some (V.ref T),some (V.int (x:Int)),some (V.int (j:Int)),some (V.int ((at_+1+n:Nat):Int)),some (V.ref pn),some (V.ref A),J] d7:=by
    intro x row A d7 c1 yy bF yt Up Uq a;rw[<-iy];rfl';have Ur:pn≠T:=(cT X kR).symm;have Us:A≠T:=(cT X yy).symm;have ox:i+1<=400:=by rw[WL]at r;lia
    refine{T,_,c1 _ _ X,d,ao,i,s,(j:Int),_,_,(l.drop (at_+1)).take n,row,q,rfl,dx.mono (c2 c1),by lia,{pn,rfl,(bf Ur).trans yt},{A,rfl,(bf Us).trans bF},a,λv ai Ut Lz eu U=>?_};let(Uu,rfl,I):=eu;have W:Uu≠T:=cT I U;have dJ:∀c,s=some c->aY c:=λc e=>by
     subst e;let(_,_,_,_,h,_):=dx;exact h
    have al:=T6 dJ q;have zu:au K ai y (l.map V.int):=Lz.vz ((ez (c2 c1)).vz hl);generalize df:encode (Vaprbq.step ⟨s⟩ q).2=zU at I al;have hm:i*20002<=400*20002:=XH _ (by lia);have Wf:acc.length<=8000800:=by lia
    refine{{_,aO},cw (au.of ((aK W).trans I)) {_,aO,by rw[WC,WJ];lia,{_,aO},_,_,aO,.inl ((aK W).trans ((aK W).trans I)),by rw[WI,WC,WC,WJ];show _+1+_<=_;lia,?_}};rw[<-xj];refine{S.length,Yo _,?_};rw[<-eS,gk,gk];refine{x,i+1,acc++((zU.length:Int)::zU),(Vaprbq.step ⟨s⟩ q).1.chain,Ue,S,_,_,_,_,_,rfl,by rw[Uq];calc Ug,Up,λc hc=>has c (WE _ hc),by rw[WL]at r;lia,?_,?_,?_,?_,?_,rfl}
    ·rw[aO,Xp,WC,XZ]
     rfl
    ·rw[WI,WL]
     lia
    ·rw[cj,f5 U]
     exact Ut
    ·rw[cj,f5 U]
     exact zu
    ·rw[u,XZ]
     congr 1;have e:VaprbqNeutral.step ⟨s⟩ c=((Vaprbq.step ⟨s⟩ q).1,zU):=by
      rw[<-df];unfold VaprbqNeutral.step;rw[a9]
     show told ((VaprbqNeutral.step ⟨s⟩ c).2::played VaprbqNeutral.step (VaprbqNeutral.step ⟨s⟩ c).1 S)=_;rw[e];rfl
   rw[<-gV];have Uv:∀j:Nat,j<14->ko (.int (j:Int)) [.int 0,.int 8]=decide (j=0\/j=8):=by decide
   show wN ?Wg ?Uw ?Wh ?Wi ?Wj ?Wk;generalize Ux: ?Uw=Wl;unfold m6;rfl';refine{[.int 0,.int 8],.inr (Z.EU.2 dj),rfl,rfl,?_};rw[Uv j a'];rcases Uh with⟨h0,lW,bW,a⟩|⟨Uy,dc,Ie,Uz,bW,a⟩
   ·rw[WM (by simp;lia)]
    exact L (at_+1+n) [] A dj (s3.trans s4) (s3.free jg) bP (s4 _ _ bR) (by lia) (by rw[bW,Ys]) a
   ·rw[WO (Xm Uy),<-Ux]
    rw[aaK]at Ie;rw[W5]at Uz;have M:au K dj y (l.map V.int):=(s3.trans s4).seq z;show eL ?Wm ?UA ?Wn ?Wo ?Wp;generalize uN: ?UA=UB at⊢;rfl';refine aZ M (v:=V.int (dc:Int)) (by rw[WG,Ie];rfl) ?_;show UB ?Wq [some (V.ref y),some (V.ref d),some (V.ref T),some (V.int (((at_+1+n:Nat):Int)+1+(dc:Int))),some (V.int j),some (V.int ((at_+1+n:Nat):Int)),some (V.ref pn),some (V.ref A),J] dj;rw[show((at_+1+n:Nat):Int)+1+(dc:Int)=((at_+1+n+1+dc:Nat):Int) by lia];rw[<-uN];rfl';refine{_,M,λnZ gp o3 dG kP=>?_};rw[show((at_+1+n:Nat):Int)+1=((at_+1+n+1:Nat):Int) by lia,H' (by rw[WC];lia),<-aah,<-aa4]at kP;have Ig:=s3.trans s4;refine L (at_+1+n+1+dc) _ nZ gp (Ig.trans dG) (Ig.free o3) kP (dG _ _ (s4 _ _ bR)) (by lia) ?_ ?_
    ·rw[bW,Ys]
     congr 1;lia
    ·rw[Ys,show at_+1+(n+1)=at_+1+n+1 by lia]at a
     calc a
end
section
variable {P:Program}{w:World}{K:PySem.W.Frag}{mg:Str->Option Value}{base h:Heap}{x qual:Str}{C f:Addr}{ps fs:List Str}{st:Stmt}{ad:bC}{bx:hk}{ff:Value}{cD an:Option Addr}{fB:Array (Option Value)}{cb doc pm a_ ct:Value}
def sC (x qual:Str) (ps:List Str) (st:Stmt):Prop:=∀(cb doc pm:Value) (an:Option Addr) (a_ ct:Value) (us:List Value),us.length=ps.length->bindArgs (fnOf x qual (jB st) (eO st) (bL st) .none cb doc pm an a_ ct) {us,[]}=pure (ps.zip us)
def Wr (X:K.In h) (G:h.Ns mainGlobals mg) (a:nsIn K mainGlobals x=some (some (.ref f))) (l:K.lookup f=some {ff,cD,.func (fnOf x x (jB st) (eO st) (bL st) .none cb doc pm an a_ ct),fB}) (c:codeIn K a_ x=true) (k:keepIn K (.ref f)=true) (b:sC x x ps st:=by walk_at "b"):a7 K mg x ps st:=
 {f,_,lK l c k,ZT X G a,(lK l c k).binds b}
def Ws (X:K.In h) (G:h.Ns mainGlobals mg) (z:Cl K C fs) (n:nsIn K mainGlobals x=some (some (.ref C))) (a:findIn K (.ref C) "__init__"=some (some (.ref f))) (l:K.lookup f=some {ff,cD,.func (fnOf "__init__" qual (jB st) (eO st) (bL st) .none cb doc pm an a_ ct),fB}) (c:codeIn K a_ qual=true) (k:keepIn K (.ref f)=true) (d:makesIn K C=true) (fn:isFn K (.ref f)=true) (cL:keepIn K (.ref C)=true) (b:sC "__init__" qual ps st:=by walk_at "b"):gR K mg x C qual ps st:=
 {f,_,z.cls,⟨d,a,fn,cL⟩,ZT X G n,lK l c k,(lK l c k).binds b}
def Wt {m:Str} (z:Cl K C fs) (a:findIn K (.ref C) m=some (some (.ref f))) (l:K.lookup f=some {ff,cD,.func (fnOf m qual (jB st) (eO st) (bL st) .none cb doc pm an a_ ct),fB}) (c:codeIn K a_ qual=true) (k:keepIn K (.ref f)=true) (fn:isFn K (.ref f)=true) (b:sC m qual ps st:=by walk_at "b"):MethAt K C m qual ps st:=
 {f,_,z.cls,⟨a,fn,k⟩,lK l c k,(lK l c k).binds b}
def zV (K:PySem.W.Frag) (C:Addr):List Str->Prop
 | []=>True
 |y::r=>findIn K (.ref C) y=some none/\zV K C r
theorem Ih:∀ {fs:List Str},zV K C fs->∀f∈fs,kl K C f
 |y::r,h,f,m=>by
  cases m with
  |head=>calc h.1
  |tail _ m=>calc Ih h.2 f m
def Wu (a:nsIn K mainGlobals x=some (some (.ref C))) (jw:plainGet K C Str.empty=true) (hd:hasDictIn K C=true) (po:plainOver K C=true) (jx:findIn K (.ref C) "__setattr__"=some (some (.builtin "object.__setattr__"))) (no:zV K C fs):Cl K C fs:={⟨jw,hd,po,jx⟩,Ih no}
def Wv {i:Int}{t:Tok} (X:K.In h) (G:h.Ns mainGlobals mg) (a:nsIn K mainGlobals x=some (some (.int i t))):c6 mg x (.int i):={_,ZT X G a,_,rfl}
def Ww {i:Str}{t:Tok} (X:K.In h) (G:h.Ns mainGlobals mg) (a:nsIn K mainGlobals x=some (some (.str i t))):c6 mg x (.str i):={_,ZT X G a,_,rfl}
def Wx {a:Addr}{xs:List V}{d:Option Addr}{its:Array Value}{n:Nat}{a3:Array (Option Value)} (X:K.In h) (G:h.Ns mainGlobals mg) (e:nsIn K mainGlobals x=some (some (.ref a))) (l:K.lookup a=some {.type "tuple",d,.seq its n,a3}) (z:its.size<=100) (v:a0 xs its.toList):GT K mg x a xs:=
 {ZT X G e,λH=>.inr {_,its,n,l,rfl,rfl,W1 z (by rw[WJ];decide),v}}
def vC:List (Int×V)->List DictEntry->Prop
 | [],[]=>True
 |(k,v)::r,e::ay=>(∃t,e.key= .int k t)/\e.hash=hashInt k/\RelV v e.val/\vC r ay
 |_,_=>False
theorem Ii{kvs:List (Int×V)}:∀ {ay:List DictEntry},vC kvs ay->∀e∈ay,∃k t,e.key= .int k t/\e.hash=hashInt k:=by
 induction kvs with
 |nil=>intro ay h;cases ay with
  |nil=>intro _ h;cases h
  |cons=>calc h.elim
 |cons x r f=>intro ay h;cases ay with
  |nil=>calc h.elim
  |cons e ay=>
   let(z,ag,_,b):=h;let(t,ae):=z;intro a m;cases m with
   |head=>calc{_,t,ae,ag}
   |tail _ m=>calc f b a m
theorem Ij{kvs:List (Int×V)}:∀ {ay:List DictEntry},vC kvs ay->∀k,eb (kvs.lookup k) ((ay.find? λe=>Value.isInt k e.key).map (·.val)):=by
 induction kvs with
 |nil=>intro ay h;cases ay with
  |nil=>calc λ_=>trivial
  |cons=>calc h.elim
 |cons x r f=>intro ay h;cases ay with
  |nil=>calc h.elim
  |cons e ay=>
   let(z0,_,a,b):=h;let(t,ae):=z0;intro k;rw[show(x::r).lookup k=_ from YA,Y5,ae];show eb (match k==x.1 with|true=>some x.2|false=>r.lookup k) (Option.map _ (match x.1==k with|true=>some e|false=>_));by_cases z:k=x.1
   ·subst z;rw[ZC];exact a
   rw[XP.mpr z,XP.mpr (XE z)];calc f b k
def Wy {a:Addr}{kvs:List (Int×V)}{ay:Array DictEntry}{n:Nat} (X:K.In h) (G:h.Ns mainGlobals mg) (e:nsIn K mainGlobals x=some (some (.ref a))) (s:(a==sysModules)=false) (l:K.lookup a=some {.type "dict",none,.dict ay n,#[]}) (v:vC kvs ay.toList):nk K mg x a kvs:=by
 refine{ZT X G e,s,ay,n,l,Ii v,λk=>?_};unfold findBy;rw[<-aaE];calc Ij v k
def UC:∀x∈(["self","code","place"]:List Str),(bL (inClass (top 46) 0)).names.lookup x=some .local:=by decide+kernel
def Wz {nm q:Str}{N:Addr}{bs:List Value}{sn:List Str}{sub:List Value}{ab:Bool}{col:Option Bool}{dd:Option Addr}{k0 k1 k2 k3 k5:Option Value} (l:K.lookup C=some (excClassObj nm q C N bs nh true sn sub ab col dd k0 k1 k2 k3 k5 "ValueError.__new__")) (ae:nsOkIn K N=true) (ag:nsIn K N "__init__"=some (some (.ref f))) (b:nsIn K N "__setattr__"=some none) (d:nsIn K N "code"=some none) (e:nsIn K N "place"=some none) (cL:keepIn K (.ref C)=true) (a:K.lookup f=some {.type "function",cD,.func (fnOf "__init__" "Fault.__init__" (jB (inClass (top 46) 0)) (eO (inClass (top 46) 0)) (bL (inClass (top 46) 0)) .none cb doc pm an a_ ct),fB}) (c:codeIn K a_ "Fault.__init__"=true) (k:keepIn K (.ref f)=true) (g:findIn K (.ref C) "__getattribute__"=some (some (.builtin kD))) (h:findIn K (.ref C) "__getattr__"=some none) (hd:hasDictIn K C=true) (i:findIn K (.ref C) "code"=some none) (j:findIn K (.ref C) "place"=some none):rz K C f (fnOf "__init__" "Fault.__init__" (jB (inClass (top 46) 0)) (eO (inClass (top 46) 0)) (bL (inClass (top 46) 0)) .none cb doc pm an a_ ct) (inClass (top 46) 0):=
 {⟨nm,q,N,bs,sn,sub,ab,col,dd,k0,k1,k2,k3,k5,l,ae,ag,b,d,e⟩,cL,{_,a,rfl},lK a c k,(lK a c k).binds (show sC _ _ _ _ by walk_at "b"),{rfl,rfl,rfl,by decide+kernel,rfl,by decide+kernel,by decide+kernel},UC,{_,_,_,_,_,_,_,_,rfl},{⟨nm,q,N,bs,sn,sub,ab,col,dd,k0,k1,k2,k3,k5,l⟩,g,h,hd},i,j}
def UD (e f g h i j k l m a b c d:Addr):Nat->Addr
 |1=>e|2=>f|3=>g|4=>h|5=>i|6=>j|7=>k|8=>l|9=>m|10=>a|11=>b|12=>c|13=>d|_=>0
def all_mk (X:K.In h) (G:h.Ns mainGlobals mg) {v:Addr} (d:mg "answers"=some (.ref v)) {f g i j k l m n o p c x y z A B C D E H I J L M N O Q R q r t u:Addr}{S:FuncData} (hc:ef K ⟨f,g,i,j,k,l,m,n,o,p,c⟩) (T:ef K ⟨f,g,i,j,k,l,m,n,o,p,c⟩->Dg K mg ⟨f,g,i,j,k,l,m,n,o,p,c⟩ {x,y,z,A,B,C,D,E,S,UD H I J L M N O Q R q r t u}):∃fd:FuncData,(∀(s:Shared) (us:List Value),us.length=(["calls"]:List Str).length->BindsTo s fd {us,[]} ((["calls"]:List Str).zip us))/\∀base:Heap,K.In base->base.Ns mainGlobals mg->dU P w K mg base dB 12 v fd ["calls"] (zT K):=by
 have Z:=T hc;let(W,fd,F,a,b):=Z.Nb;have e:=d.symm.trans a;cases e;refine{fd,λs us U=>?_,λbase _ _=>T' F ⟨Z,hc⟩};let(ff,cD,cb,doc,pm,an,a_,ct,fB,rfl,lk,V):=F.ex;exact .of_eq ((show sC "answers" "answers" ["calls"] (top 144) by walk_at "b") cb doc pm an a_ ct us U)
end
open PySem.W (Codec)
abbrev row:=PySem.Challenge.rw_roundchains_s01_answers
def WA (K:PySem.W.Frag) (H:am) (xs:List V) (a:Codec.denoteAll row.args) (h:o7 H) (c:Codec.withinAll row.args a=true) (b:Codec.app row.args row.asked a=true) (d:hT K H xs (Codec.encAll row.args a)):
  zT K xs H (λv aj=>eP K aj v (row.ret.enc (Codec.app row.args row.f a))) λ_ _ _=>False:=by
 cases d with
 |cons ae ag=>
  cases ag;cases ae with
  |lst hs f=>
   have e:=B8 a.1 _ f;subst e;refine{_,a.1,rfl,hs,b,λv ai r=>?_};let(p,rfl,g):=r;calc .lst (au.of g) (B7 _)
end mf
local macro_rules|`(tactic|walk_at "b")=>`(tactic|(intro _ _ _ _ _ _ us hl;repeat' (first|(exfalso;simp at hl;done)|(rcases us with _|⟨_,us⟩)|rfl)))
open PySem PySem.W PyProof.Rows
open mf (Wr Ws Wt Wu)
theorem PySem.Challenge.cw_roundchains_s01_answers_holds : PySem.Challenge.rw_roundchains_s01_answers.Holds := by
  refine zzH ?_
  w_on
  k_fillS
  refine L2.UV (r:=PySem.Challenge.rw_roundchains_s01_answers) (k:=12) (CX:=L2.dB) (ps:=["calls"]) (sp:=mf.zT) mf.said rfl rfl ⟨rfl,by decide,by decide⟩ (fun w h Y=>PySem.W.kIn_of Y) ?F mf.WA (fun _ _ _ _ z=>z)
  case F=>
    intro w mg fa h Y X G hmg
    refine' mf.all_mk X G hmg ⟨Wu (x:= "Token") _ _ _ _ _ ⟨_,_,_,_,trivial⟩,Wu (x:= "Reader") _ _ _ _ _ ⟨_,_,trivial⟩,Wu (x:= "ReadStep") _ _ _ _ _ ⟨_,_,trivial⟩,Wu (x:= "ReadState") _ _ _ _ _ ⟨_,_,_,trivial⟩,Wu (x:= "ReadChain") _ _ _ _ _ ⟨_,_,_,trivial⟩,Wu (x:= "Chain") _ _ _ _ _ ⟨_,_,_,_,_,trivial⟩,Wu (x:= "StateClass") _ _ _ _ _ ⟨_,_,trivial⟩,Wu (x:= "Sums") _ _ _ _ _ ⟨_,_,trivial⟩,Wu (x:= "Walk") _ _ _ _ _ ⟨_,_,_,_,_,_,_,_,_,_,_,trivial⟩,Wu (x:= "Desk") _ _ _ _ _ ⟨_,_,trivial⟩⟩ ?Z
    any_goals (first|k_is|(dsimp only;k_is))
    case Z=>
      intro hc
      refine' ⟨Wr X G _ _ _ _,Wr X G _ _ _ _,Wr X G _ _ _ _,Wr X G _ _ _ _,Wr X G _ _ _ _,Wr X G _ _ _ _,Wr X G _ _ _ _,Wr X G _ _ _ _,Wr X G _ _ _ _,Wr X G _ _ _ _,Wr X G _ _ _ _,Ws X G hc.sums _ _ _ _ _ _ _ _,Wr X G _ _ _ _,Wr X G _ _ _ _,Wr X G _ _ _ _,Wr X G _ _ _ _,Wr X G _ _ _ _,Wr X G _ _ _ _,Wr X G _ _ _ _,Wr X G _ _ _ _,Wr X G _ _ _ _,Wr X G _ _ _ _,Wr X G _ _ _ _,Wr X G _ _ _ _,Wr X G _ _ _ _,Wr X G _ _ _ _,Wr X G _ _ _ _,Wr X G _ _ _ _,Wr X G _ _ _ _,Ws X G hc.token _ _ _ _ _ _ _ _,Wr X G _ _ _ _,Wr X G _ _ _ _,Wr X G _ _ _ _,Wr X G _ _ _ _,Wr X G _ _ _ _,Wr X G _ _ _ _,Wr X G _ _ _ _,Wr X G _ _ _ _,Ws X G hc.reader _ _ _ _ _ _ _ _,Wt hc.reader _ _ _ _ _,Wt hc.reader _ _ _ _ _,Wt hc.reader _ _ _ _ _,Ws X G hc.readStep _ _ _ _ _ _ _ _,Ws X G hc.readState _ _ _ _ _ _ _ _,Ws X G hc.readChain _ _ _ _ _ _ _ _,Wr X G _ _ _ _,Wr X G _ _ _ _,Wr X G _ _ _ _,Wr X G _ _ _ _,Wr X G _ _ _ _,Wr X G _ _ _ _,Wr X G _ _ _ _,Ws X G hc.chain _ _ _ _ _ _ _ _,Wr X G _ _ _ _,Wr X G _ _ _ _,Wr X G _ _ _ _,Wr X G _ _ _ _,Wr X G _ _ _ _,Wr X G _ _ _ _,Wr X G _ _ _ _,Wr X G _ _ _ _,Ws X G hc.stateClass _ _ _ _ _ _ _ _,Wr X G _ _ _ _,Wr X G _ _ _ _,Wr X G _ _ _ _,Wr X G _ _ _ _,Wr X G _ _ _ _,Wr X G _ _ _ _,Wr X G _ _ _ _,Wr X G _ _ _ _,Wr X G _ _ _ _,Ws X G hc.walk _ _ _ _ _ _ _ _,Wr X G _ _ _ _,Wr X G _ _ _ _,Wr X G _ _ _ _,Wr X G _ _ _ _,Wr X G _ _ _ _,Wr X G _ _ _ _,Wr X G _ _ _ _,Ws X G hc.desk _ _ _ _ _ _ _ _,Wt hc.desk _ _ _ _ _,Wt hc.desk _ _ _ _ _,Wr X G _ _ _ _,Wr X G _ _ _ _,Wr X G _ _ _ _,Wr X G _ _ _ _,Wr X G _ _ _ _,Wr X G _ _ _ _,Wr X G _ _ _ _,Wr X G _ _ _ _,Wr X G _ _ _ _,Wr X G _ _ _ _,Wr X G _ _ _ _,Wr X G _ _ _ _,Wr X G _ _ _ _,Wr X G _ _ _ _,Wr X G _ _ _ _,Wr X G _ _ _ _,Wr X G _ _ _ _,Wr X G _ _ _ _,PySem.W.mg_none_of X G _,PySem.W.mg_none_of X G _,PySem.W.mg_none_of X G _,PySem.W.mg_none_of X G _,PySem.W.mg_none_of X G _,PySem.W.mg_none_of X G _,PySem.W.mg_none_of X G _,PySem.W.mg_none_of X G _,PySem.W.mg_none_of X G _,PySem.W.mg_none_of X G _,PySem.W.mg_none_of X G _,PySem.W.mg_none_of X G _,PySem.W.mg_none_of X G _,PySem.W.mg_none_of X G _,PySem.W.mg_none_of X G _,mf.Wx X G _ _ _ _,mf.Wx X G _ _ _ _,mf.Wv X G _,mf.Ww X G _,mf.Wv X G _,mf.Ww X G _,mf.Wv X G _,mf.Wv X G _,mf.Wv X G _,mf.Wv X G _,mf.Wv X G _,mf.Wv X G _,mf.Wv X G _,mf.Wv X G _,mf.Wv X G _,mf.Wv X G _,mf.Ww X G _,mf.Wv X G _,mf.Wv X G _,mf.Wv X G _,mf.Wx X G _ _ _ _,mf.Wv X G _,mf.Wv X G _,mf.Wv X G _,mf.Wv X G _,mf.Wv X G _,mf.Ww X G _,mf.Wx X G _ _ _ _,mf.Wy X G _ _ _ _,mf.Wv X G _,mf.Wv X G _,mf.Wy X G _ _ _ _,mf.Wv X G _,mf.Wv X G _,mf.Wv X G _,mf.Wv X G _,mf.Wv X G _,mf.Wx X G _ _ _ _,PySem.W.mg_of X G _,mf.Wz _ _ _ _ _ _ _ _ _ _ _ _ _ _ _,PySem.W.mg_of X G _,PySem.W.mg_of X G _,PySem.W.mg_of X G _,PySem.W.mg_of X G _,PySem.W.mg_of X G _,PySem.W.mg_of X G _,PySem.W.mg_of X G _,PySem.W.mg_of X G _,PySem.W.mg_of X G _,PySem.W.mg_of X G _,PySem.W.mg_of X G _,PySem.W.mg_of X G _,PySem.W.mg_of X G _⟩
      iterate 3 (try any_goals (first|k_is|(dsimp only;k_is)|kernel_rfl|decide|(refine .cons ⟨_,rfl⟩ ?_;repeat (first|exact .nil|refine .cons ⟨_,rfl⟩ ?_))|(refine⟨⟨_,rfl⟩,by first|rfl|decide+kernel,by first|rfl|exact⟨_,rfl⟩,?_⟩;repeat (first|exact trivial|refine⟨⟨_,rfl⟩,by first|rfl|decide+kernel,by first|rfl|exact⟨_,rfl⟩,?_⟩))|skip))
