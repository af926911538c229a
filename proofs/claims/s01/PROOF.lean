import PyProof.Rows.All
import Wide.All
import OpenK.AllK
import Wide.FinOn
import PyProof.EqAt
import PyProof.EqKinds
import PyProof.TupleCall
import KE.BitLaws
import Open.SpecLaws
import KE.OsHead
import KE.OsGo
import PyProof.AutoIntG2
import PySem.Challenge.RW_wouldrather_s01_answers
set_option Elab.async false
set_option linter.all false
set_option maxRecDepth 100000
set_option maxHeartbeats 4000000
namespace PySem.W.Fast
theorem tw5320867185129751787:True:=trivial
theorem tw61768705883839774:True:=trivial
theorem tw6622680282990044400:True:=trivial
theorem tw282543725514247531:True:=trivial
theorem tw7041725994631433421:True:=trivial
theorem tw16003213539819154273:True:=trivial
theorem tw14322383149835618856:True:=trivial
theorem tw15992307466057389346:True:=trivial
theorem tw1704833650129736127:True:=trivial
theorem tw977693486352925451:True:=trivial
theorem tw16788592367725353729:True:=trivial
theorem tw5147100644798519012:True:=trivial
theorem tw3839550095397829392:True:=trivial
theorem tw2938593767744850002:True:=trivial
theorem tw5814966113296566125:True:=trivial
theorem tw425383591939839176:True:=trivial
theorem tw8074032016616435539:True:=trivial
theorem tw5342793832726609007:True:=trivial
theorem tw12577392281230234205:True:=trivial
theorem tw16339966740574151930:True:=trivial
theorem tw15952605520514022302:True:=trivial
theorem tw8963645916360849098:True:=trivial
theorem tw11792906958493792041:True:=trivial
theorem tw9217491845155155530:True:=trivial
theorem tw13764051993674757908:True:=trivial
theorem tw5642607571927118850:True:=trivial
theorem tw5238686609425972841:True:=trivial
theorem tw13009112667124275594:True:=trivial
theorem tw7309777813566350257:True:=trivial
theorem tw16734513671203495490:True:=trivial
theorem tw14435984687493972134:True:=trivial
theorem tw571902552042941395:True:=trivial
theorem tw18074451171836850089:True:=trivial
theorem tw13981725192057474899:True:=trivial
theorem tw10469092352321917534:True:=trivial
theorem tw5491478380170103452:True:=trivial
theorem tw1031747959379751772:True:=trivial
theorem tw2943065645590041587:True:=trivial
theorem tw8702791319016956535:True:=trivial
theorem tw13176478805169613565:True:=trivial
theorem tw16383646546514385086:True:=trivial
theorem tw1505546726754876718:True:=trivial
theorem tw10206966066279270408:True:=trivial
theorem tw6268351723553315641:True:=trivial
theorem tw18440074116660579921:True:=trivial
theorem tw15699321866887357827:True:=trivial
theorem tw13808534888273502690:True:=trivial
theorem tw12262005788159161156:True:=trivial
theorem tw922400635748317876:True:=trivial
theorem tw15879633286227626825:True:=trivial
theorem tw13242684351118517439:True:=trivial
theorem tw15397592339268680809:True:=trivial
theorem tw8250676550058344663:True:=trivial
theorem tw8973430845983439164:True:=trivial
theorem tw5992966177388434609:True:=trivial
theorem tw10847645383968151940:True:=trivial
theorem tw8010243492450865191:True:=trivial
theorem tw10292042380629273946:True:=trivial
theorem tw15269854950634640782:True:=trivial
theorem tw9330861907596348976:True:=trivial
theorem tw18324153154492346519:True:=trivial
theorem tw8529452198924800049:True:=trivial
theorem tw18199269668265619920:True:=trivial
theorem tw4568607178779236755:True:=trivial
theorem tw7176509339435927805:True:=trivial
theorem tw7174668217877406307:True:=trivial
theorem tw7668150894092798857:True:=trivial
theorem tw2475402805537680211:True:=trivial
theorem tw4077136562136888732:True:=trivial
theorem tw1538546963117204399:True:=trivial
theorem tw12709734741223567531:True:=trivial
theorem tw5559596914822443915:True:=trivial
theorem tw15823956229953223133:True:=trivial
theorem tw15622360757999355191:True:=trivial
theorem tw6681654361396848380:True:=trivial
theorem tw10584615078249963071:True:=trivial
theorem tw17974497331755579264:True:=trivial
theorem tw1068665455916545820:True:=trivial
theorem tw7132338999987358895:True:=trivial
theorem tw11921013399877675079:True:=trivial
theorem tw15833278768670211685:True:=trivial
theorem tw11519389357206460368:True:=trivial
theorem tw11792082178058068481:True:=trivial
theorem tw1484116614525235252:True:=trivial
theorem tw11218049772558445583:True:=trivial
theorem tw2598441768643945355:True:=trivial
theorem tw4899265582454346906:True:=trivial
theorem tw16067774624407254190:True:=trivial
theorem tw777395231938233004:True:=trivial
theorem tw3720210761964005360:True:=trivial
theorem tw6572945714677352161:True:=trivial
theorem tw14930160303452124416:True:=trivial
theorem tw12363699030244265889:True:=trivial
theorem tw13356067138063503135:True:=trivial
theorem tw11560379146429390619:True:=trivial
theorem tw12039062311925245419:True:=trivial
theorem tw7670341682038838882:True:=trivial
theorem tw11128468652165946061:True:=trivial
theorem tw4059921706800537281:True:=trivial
theorem tw9753720742702868812:True:=trivial
theorem tw2657965685124448697:True:=trivial
theorem tw13117392858036130321:True:=trivial
theorem tw14650512718640564356:True:=trivial
theorem tw12656225245443723138:True:=trivial
theorem tw8923090542821785721:True:=trivial
theorem tw956064237888765064:True:=trivial
theorem tw17858963678961717648:True:=trivial
theorem tw12862688139042383137:True:=trivial
theorem tw9259347144630978762:True:=trivial
theorem tw5522733671498152693:True:=trivial
theorem tw5131354025857787778:True:=trivial
theorem tw12608807163808514124:True:=trivial
theorem tw9004381194859829051:True:=trivial
theorem tw16962954665652559053:True:=trivial
theorem tw12092708660913936959:True:=trivial
theorem tw15520462841459040628:True:=trivial
theorem tw5771446384167983634:True:=trivial
theorem tw13555477375389507796:True:=trivial
theorem tw5145836376487755889:True:=trivial
theorem tw16301778087145813501:True:=trivial
theorem tw14552479306089829602:True:=trivial
theorem tw11131620711744947998:True:=trivial
theorem tw15383935947921814623:True:=trivial
theorem tw17854182161408215268:True:=trivial
theorem tw3339485778139964228:True:=trivial
theorem tw7265769166331683663:True:=trivial
theorem tw16612390614474109765:True:=trivial
theorem tw1450112932282274544:True:=trivial
theorem tw7440093573444050037:True:=trivial
theorem tw8014057898782724328:True:=trivial
theorem tw8223043034219027401:True:=trivial
theorem tw10258906401286149729:True:=trivial
theorem tw9025863520187774189:True:=trivial
theorem tw7259613543193030237:True:=trivial
theorem tw12536132283059259801:True:=trivial
theorem tw14609938704867053378:True:=trivial
theorem tw3374215846880935819:True:=trivial
theorem tw1440037632322868897:True:=trivial
theorem tw15158698723212788141:True:=trivial
theorem tw6579996796268898025:True:=trivial
theorem tw4196390961600798773:True:=trivial
theorem tw6838959140958018246:True:=trivial
theorem tw5618098260541285505:True:=trivial
theorem tw16585283074953337406:True:=trivial
theorem tw12802629595740857480:True:=trivial
theorem tw3587025989820111896:True:=trivial
theorem tw7923474281694990263:True:=trivial
theorem tw8160589026892535322:True:=trivial
theorem tw7489533862483968168:True:=trivial
theorem tw4823413769255586766:True:=trivial
theorem tw7344340404467209996:True:=trivial
theorem tw13629077281877211770:True:=trivial
theorem tw4802232365742370196:True:=trivial
theorem tw966325925661942575:True:=trivial
theorem tw17132612215518122263:True:=trivial
theorem tw11362430528330405093:True:=trivial
theorem tw1373141910736726816:True:=trivial
theorem tw13108894478660832954:True:=trivial
theorem tw11422824802157845871:True:=trivial
theorem tw5263702163058592014:True:=trivial
theorem tw15332271782676245623:True:=trivial
theorem tw13966009545890328712:True:=trivial
theorem tw8747089347196749463:True:=trivial
theorem tw10136343077353278460:True:=trivial
theorem tw13416542744111399252:True:=trivial
theorem tw14772448977303369914:True:=trivial
theorem tw8029437470976930993:True:=trivial
theorem tw10845690009607392757:True:=trivial
theorem tw5016471018362675741:True:=trivial
theorem tw1114623483175669413:True:=trivial
theorem tw17252669835466577748:True:=trivial
theorem tw12487936320281762705:True:=trivial
theorem tw14764253224568888580:True:=trivial
theorem tw9397285845363020268:True:=trivial
theorem tw18392020211443781875:True:=trivial
theorem tw1950849141932834131:True:=trivial
theorem tw2341081014527902693:True:=trivial
theorem tw714613714409593748:True:=trivial
theorem tw18314833065937562696:True:=trivial
theorem tw15173663411768689623:True:=trivial
theorem tw17669030652942172966:True:=trivial
theorem tw2653874861026096557:True:=trivial
theorem tw376760528669241705:True:=trivial
theorem tw14353143026583027145:True:=trivial
theorem tw6164803947662335900:True:=trivial
theorem tw15765680710224281986:True:=trivial
theorem tw5704695441535250273:True:=trivial
theorem tw14843157787582417222:True:=trivial
theorem tw11864979896446970055:True:=trivial
theorem tw4893790662130728351:True:=trivial
theorem tw5488900667220795650:True:=trivial
theorem tw9458484265503909853:True:=trivial
theorem tw8269064826364204018:True:=trivial
theorem tw4689597402428883349:True:=trivial
theorem tw15597682666692316355:True:=trivial
theorem tw18381662919518447395:True:=trivial
theorem tw4043410272778857124:True:=trivial
theorem tw15346010692106430721:True:=trivial
theorem tw3453817018105513332:True:=trivial
theorem tw7753357557248299830:True:=trivial
theorem tw10526688605637495093:True:=trivial
theorem tw853271857208742854:True:=trivial
theorem tw6899429119832249422:True:=trivial
theorem tw10916719439386882337:True:=trivial
theorem tw6907425587328103972:True:=trivial
theorem tw3282426627577804253:True:=trivial
theorem tw17671352232941264414:True:=trivial
theorem tw9650413197487978110:True:=trivial
theorem tw12262772670062604972:True:=trivial
theorem tw18074778163928979068:True:=trivial
theorem tw11707068136305891364:True:=trivial
theorem tw12682913993881575501:True:=trivial
theorem tw7178914585753638597:True:=trivial
theorem tw6834200552129509699:True:=trivial
theorem tw17432345584194137811:True:=trivial
theorem tw441151345064991309:True:=trivial
theorem tw12954562151142437217:True:=trivial
theorem tw9771709273080053031:True:=trivial
theorem tw15204402084646486511:True:=trivial
theorem tw17849202521684792278:True:=trivial
theorem tw2757873607175434955:True:=trivial
theorem tw6333990981629292533:True:=trivial
theorem tw7171696242959666726:True:=trivial
theorem tw15214404457927255448:True:=trivial
theorem tw3299763495900834605:True:=trivial
theorem tw4092305983351295233:True:=trivial
theorem tw11511136064569741682:True:=trivial
theorem tw6068459622939643177:True:=trivial
theorem tw7530758991651242767:True:=trivial
theorem tw5715867996623644243:True:=trivial
theorem tw12638528850044234019:True:=trivial
theorem tw16549188239834464670:True:=trivial
theorem tw8845100687138368786:True:=trivial
theorem tw8592537568358859264:True:=trivial
theorem tw100219782090329448:True:=trivial
theorem tw12525242349694988872:True:=trivial
theorem tw17045418771987671623:True:=trivial
theorem tw2728572455906753294:True:=trivial
theorem tw4532755074717202876:True:=trivial
theorem tw5973870553887469508:True:=trivial
theorem tw2657484209160202723:True:=trivial
theorem tw14440350020730284285:True:=trivial
theorem tw13440608371178435445:True:=trivial
theorem tw15022821401940509361:True:=trivial
theorem tw549929696724431208:True:=trivial
theorem tw3294030483408834771:True:=trivial
theorem tw8995406583696051409:True:=trivial
theorem tw7242598905784379619:True:=trivial
theorem tw5516807196555088613:True:=trivial
theorem tw6593438394478585141:True:=trivial
theorem tw8424814753705649547:True:=trivial
theorem tw10251628357900968433:True:=trivial
theorem tw5426052325814843414:True:=trivial
theorem tw9303587253378814962:True:=trivial
theorem tw13971531976290207327:True:=trivial
theorem tw15721552683686707065:True:=trivial
theorem tw1040095277743040815:True:=trivial
theorem tw13550309834709960904:True:=trivial
theorem tw1611127590878198934:True:=trivial
theorem tw15168292870012818162:True:=trivial
theorem tw17814295907816220719:True:=trivial
theorem tw11473411774058257293:True:=trivial
theorem tw5632494779477160125:True:=trivial
theorem tw15241375102548869565:True:=trivial
theorem tw16180889846549096118:True:=trivial
theorem tw13295609925559770140:True:=trivial
theorem tw14469364957861556841:True:=trivial
theorem tw17430110491187049419:True:=trivial
theorem tw17679792967874535554:True:=trivial
theorem tw7949438049481161059:True:=trivial
theorem tw161508276335014716:True:=trivial
theorem tw6154472510336968870:True:=trivial
theorem tw3919417513469389466:True:=trivial
theorem tw12967637014615851292:True:=trivial
theorem tw17141258557141408072:True:=trivial
theorem tw12139806448404905275:True:=trivial
theorem tw14258137049129129144:True:=trivial
theorem tw11678236234626207399:True:=trivial
theorem tw73372096921003421:True:=trivial
theorem tw12091041084208933717:True:=trivial
theorem tw7559517852539931142:True:=trivial
theorem tw9583375080405565518:True:=trivial
theorem tw9325852559435778250:True:=trivial
theorem tw8778135654940152319:True:=trivial
theorem tw6728714999388433561:True:=trivial
theorem tw16959215074937702871:True:=trivial
theorem tw1964939810880861541:True:=trivial
theorem tw8334890149008122306:True:=trivial
theorem tw2222650045003190026:True:=trivial
theorem tw2762945576403395284:True:=trivial
theorem tw14682079805976631643:True:=trivial
theorem tw6874012535201208480:True:=trivial
theorem tw3231634204121522667:True:=trivial
theorem tw9125882136190547970:True:=trivial
theorem tw9131862212666757363:True:=trivial
theorem tw14499421383383314491:True:=trivial
theorem tw3691887661659084239:True:=trivial
theorem tw9491808097497164434:True:=trivial
theorem tw5258495392744986463:True:=trivial
theorem tw11695493204642800901:True:=trivial
theorem tw17739938143092074376:True:=trivial
theorem tw12663134908431031870:True:=trivial
theorem tw5247199595895465498:True:=trivial
theorem tw16464581469209133132:True:=trivial
theorem tw10242293757951148349:True:=trivial
theorem tw17112054587172976229:True:=trivial
theorem tw4297186075443978002:True:=trivial
theorem tw9003192100489686384:True:=trivial
theorem tw8129224223191786160:True:=trivial
theorem tw7426632262850475490:True:=trivial
theorem tw11465550660735793823:True:=trivial
theorem tw9753529237711982313:True:=trivial
theorem tw12108651631296112209:True:=trivial
theorem tw18028314782522696662:True:=trivial
theorem tw8395495847531770370:True:=trivial
theorem tw7349335733064964660:True:=trivial
theorem tw333481597206543441:True:=trivial
theorem tw18049654924012572464:True:=trivial
theorem tw5510598221139255956:True:=trivial
theorem tw4186344945574629710:True:=trivial
theorem tw4622783734336949564:True:=trivial
theorem tw17847309543267444028:True:=trivial
theorem tw14362533741449874965:True:=trivial
theorem tw9839514795603336662:True:=trivial
theorem tw1977689175340278499:True:=trivial
theorem tw14451481873565760637:True:=trivial
theorem tw14017889185354676860:True:=trivial
theorem tw8456225591289459813:True:=trivial
theorem tw5330818035042701289:True:=trivial
theorem tw15844044326080243796:True:=trivial
theorem tw1109382727988259220:True:=trivial
theorem tw12048915138843656401:True:=trivial
theorem tw18094088837374025522:True:=trivial
theorem tw172429718748369476:True:=trivial
theorem tw13680856838581922379:True:=trivial
theorem tw12040167182213843345:True:=trivial
theorem tw10559346392184690512:True:=trivial
theorem tw10041001717547710133:True:=trivial
theorem tw3064207143836252692:True:=trivial
theorem tw7528650550494828966:True:=trivial
theorem tw8295882140200334761:True:=trivial
theorem tw2370146271725861992:True:=trivial
theorem tw3089081053459080364:True:=trivial
theorem tw15578889871388401505:True:=trivial
theorem tw10969817884295269277:True:=trivial
theorem tw15940702498720699207:True:=trivial
theorem tw12309658757658351535:True:=trivial
theorem tw6753213426761352281:True:=trivial
theorem tw5352867942707829442:True:=trivial
theorem tw1878989677175889265:True:=trivial
theorem tw4805271056463069211:True:=trivial
theorem tw1732272883455156753:True:=trivial
theorem tw13501799754841629938:True:=trivial
theorem tw1111478328155626329:True:=trivial
theorem tw1687953311280194078:True:=trivial
theorem tw10489192617315599747:True:=trivial
theorem tw11014098197156351117:True:=trivial
theorem tw34697606491641810:True:=trivial
theorem tw2507206046561288910:True:=trivial
theorem tw11849039877730050261:True:=trivial
theorem tw13512082106264196846:True:=trivial
theorem tw1641860969497889812:True:=trivial
theorem tw3319223754539150756:True:=trivial
theorem tw16158834956904244470:True:=trivial
theorem tw5051467327653395505:True:=trivial
theorem tw17132452573998308083:True:=trivial
theorem tw970263313237657746:True:=trivial
theorem tw16958890388430052743:True:=trivial
theorem tw17811750182583586921:True:=trivial
theorem tw13050170716173619607:True:=trivial
theorem tw6267789196507142424:True:=trivial
theorem tw9301925828637670064:True:=trivial
theorem tw6813561754955718788:True:=trivial
theorem tw17239928403517448184:True:=trivial
theorem tw953912014185148146:True:=trivial
theorem tw8362164512018943049:True:=trivial
theorem tw4891348062845962882:True:=trivial
theorem tw252099105383156638:True:=trivial
theorem tw17503469436756173448:True:=trivial
theorem tw13943750138755744999:True:=trivial
theorem tw360020975795337581:True:=trivial
theorem tw14014482672199124691:True:=trivial
theorem tw15572339628796701614:True:=trivial
theorem tw3595312722339098881:True:=trivial
theorem tw15188455669962052131:True:=trivial
theorem tw14914501405125421519:True:=trivial
theorem tw4461666530481570467:True:=trivial
theorem tw12597452174905955459:True:=trivial
theorem tw1059624731375958136:True:=trivial
theorem tw7711003198962806210:True:=trivial
theorem tw9038011566484266696:True:=trivial
theorem tw8378174561020974608:True:=trivial
theorem tw17874734862283783082:True:=trivial
theorem tw3506400202455786490:True:=trivial
theorem tw14335197287331849847:True:=trivial
theorem tw2349371773040933725:True:=trivial
theorem tw12195459743110784158:True:=trivial
theorem tw2408910473209337933:True:=trivial
theorem tw17381501532622130275:True:=trivial
theorem tw11432087543586600943:True:=trivial
theorem tw16463324462136798843:True:=trivial
theorem tw11371555297575114596:True:=trivial
theorem tw8439151241931503877:True:=trivial
theorem tw13111864542911851459:True:=trivial
theorem tw1316194648689624483:True:=trivial
theorem tw4343842535984187973:True:=trivial
theorem tw10404754626742709075:True:=trivial
theorem tw9234639664876252085:True:=trivial
theorem tw14944090940981500014:True:=trivial
theorem tw8768220677412447169:True:=trivial
theorem tw3225086444820305585:True:=trivial
theorem tw16136013857022348060:True:=trivial
theorem tw5160892287492218023:True:=trivial
theorem tw8225712156446922742:True:=trivial
theorem tw7992912789107890785:True:=trivial
theorem tw6694272258294102168:True:=trivial
theorem tw6652135168193715955:True:=trivial
theorem tw4458735961190445585:True:=trivial
theorem tw11545909533795888884:True:=trivial
theorem tw15560622627441250148:True:=trivial
theorem tw11159896912322731866:True:=trivial
theorem tw883699304831240655:True:=trivial
theorem tw16856827241004097548:True:=trivial
theorem tw16752391263989625432:True:=trivial
theorem tw15194389700413448727:True:=trivial
theorem tw3109048111853211140:True:=trivial
theorem tw7162525509525692544:True:=trivial
theorem tw3004468104839345837:True:=trivial
theorem tw16389081990473354776:True:=trivial
theorem tw4169061553876906335:True:=trivial
theorem tw9980589381553594724:True:=trivial
theorem tw9911459654439101281:True:=trivial
theorem tw9741574983416030346:True:=trivial
theorem tw968375599808182071:True:=trivial
theorem tw9587551474602009328:True:=trivial
theorem tw9458675464611330750:True:=trivial
theorem tw9369867226316313352:True:=trivial
theorem tw9209003119511178477:True:=trivial
theorem tw8773754184668318645:True:=trivial
theorem tw8713056168621627029:True:=trivial
theorem tw8705457663699635568:True:=trivial
theorem tw8397321874207823479:True:=trivial
theorem tw838720335438254641:True:=trivial
theorem tw8384213142096577856:True:=trivial
theorem tw8040301499126021262:True:=trivial
theorem tw7981733538646627297:True:=trivial
theorem tw7954687642103762055:True:=trivial
theorem tw7938169087651200764:True:=trivial
theorem tw7930460693874243685:True:=trivial
theorem tw7749865490261293796:True:=trivial
theorem tw7698110949461317008:True:=trivial
theorem tw7511012698372431530:True:=trivial
theorem tw7370267447113198584:True:=trivial
theorem tw7158817046658915916:True:=trivial
theorem tw7147278585904315159:True:=trivial
theorem tw7144255004411244565:True:=trivial
theorem tw7130806224603271836:True:=trivial
theorem tw7032193703938400650:True:=trivial
theorem tw6990533755473565674:True:=trivial
theorem tw6961174386870580887:True:=trivial
theorem tw6779480966700025839:True:=trivial
theorem tw6559706667036800957:True:=trivial
theorem tw6180108836880045996:True:=trivial
theorem tw6133302046519698003:True:=trivial
theorem tw6125865984062301903:True:=trivial
theorem tw607270058853874625:True:=trivial
theorem tw5863334018052881807:True:=trivial
theorem tw5833936966161530987:True:=trivial
theorem tw5653743437196123062:True:=trivial
theorem tw5571280981023414926:True:=trivial
theorem tw5542903624332512270:True:=trivial
theorem tw537572897207754306:True:=trivial
theorem tw5231434632758356866:True:=trivial
theorem tw5215774983151302755:True:=trivial
theorem tw5210562958664637930:True:=trivial
theorem tw5202664281792447800:True:=trivial
theorem tw5108193126128403420:True:=trivial
theorem tw4918385630121425601:True:=trivial
theorem tw4826665611602752878:True:=trivial
theorem tw479249112541819729:True:=trivial
theorem tw474547044612573437:True:=trivial
theorem tw4675162097382679795:True:=trivial
theorem tw4655481860344942710:True:=trivial
theorem tw4625944883331261229:True:=trivial
theorem tw4490382268782534757:True:=trivial
theorem tw4394553730252139516:True:=trivial
theorem tw4336120484333540737:True:=trivial
theorem tw4274342073326996231:True:=trivial
theorem tw4196108525027682738:True:=trivial
theorem tw3869768636787108495:True:=trivial
theorem tw3837200154882058417:True:=trivial
theorem tw3633141722104856232:True:=trivial
theorem tw3591868301013313301:True:=trivial
theorem tw3539169398752106261:True:=trivial
theorem tw3486332585685387186:True:=trivial
theorem tw333469871884840181:True:=trivial
theorem tw3328416398932384665:True:=trivial
theorem tw331661613491442926:True:=trivial
theorem tw3299326816550004433:True:=trivial
theorem tw3274626931489067768:True:=trivial
theorem tw3266894631234475932:True:=trivial
theorem tw325958560893068306:True:=trivial
theorem tw3132944628332370500:True:=trivial
theorem tw3057515786531292828:True:=trivial
theorem tw2991624777739985824:True:=trivial
theorem tw2741648310357032295:True:=trivial
theorem tw2575281150590285401:True:=trivial
theorem tw2481577941314449348:True:=trivial
theorem tw2442088923542096623:True:=trivial
theorem tw2431468953220662959:True:=trivial
theorem tw2261705950079411018:True:=trivial
theorem tw2018953538968823932:True:=trivial
theorem tw1970185462974843639:True:=trivial
theorem tw1841507837827185927:True:=trivial
theorem tw18123839063293760889:True:=trivial
theorem tw18112447362659468564:True:=trivial
theorem tw18042922181443741321:True:=trivial
theorem tw17809483841653333792:True:=trivial
theorem tw17654633473080391913:True:=trivial
theorem tw17641671593949032458:True:=trivial
theorem tw17587879508165626652:True:=trivial
theorem tw17551934278713937307:True:=trivial
theorem tw17540944253804072856:True:=trivial
theorem tw17515685573147157038:True:=trivial
theorem tw17285278947205299558:True:=trivial
theorem tw17115278530009625768:True:=trivial
theorem tw16896442149889526002:True:=trivial
theorem tw16878701079906986941:True:=trivial
theorem tw16867151479653566000:True:=trivial
theorem tw16783134769802482992:True:=trivial
theorem tw16777450124469023741:True:=trivial
theorem tw16754615899717002996:True:=trivial
theorem tw16568204504883093991:True:=trivial
theorem tw16527783915794564962:True:=trivial
theorem tw16445419133620279748:True:=trivial
theorem tw1640068603342974531:True:=trivial
theorem tw16358993507731212729:True:=trivial
theorem tw1626653252245977202:True:=trivial
theorem tw1623295274067281993:True:=trivial
theorem tw16228085292924616386:True:=trivial
theorem tw16219306270838015482:True:=trivial
theorem tw16188252961375108281:True:=trivial
theorem tw1610925978014518612:True:=trivial
theorem tw15923717236068292940:True:=trivial
theorem tw15915931927388237317:True:=trivial
theorem tw15763858920572403116:True:=trivial
theorem tw15678001129571234595:True:=trivial
theorem tw15656388033896627063:True:=trivial
theorem tw15563757870859603727:True:=trivial
theorem tw15559514123554861474:True:=trivial
theorem tw15377750659852477344:True:=trivial
theorem tw15331191681874760950:True:=trivial
theorem tw15192371935238524768:True:=trivial
theorem tw15070160955001351064:True:=trivial
theorem tw14839926854456462769:True:=trivial
theorem tw14708006059054497579:True:=trivial
theorem tw14691042567367484555:True:=trivial
theorem tw14638683902483556206:True:=trivial
theorem tw14625804296691873555:True:=trivial
theorem tw14527329923614268817:True:=trivial
theorem tw142907940211200480:True:=trivial
theorem tw14081589404422418038:True:=trivial
theorem tw13990282297596196584:True:=trivial
theorem tw138091065118637684:True:=trivial
theorem tw13791188886912269829:True:=trivial
theorem tw13630390706059353242:True:=trivial
theorem tw1358007406184948907:True:=trivial
theorem tw1349339342231789309:True:=trivial
theorem tw13330179534905147906:True:=trivial
theorem tw13315193189476394139:True:=trivial
theorem tw13134961730923805502:True:=trivial
theorem tw1310814864906076776:True:=trivial
theorem tw12970593146333978460:True:=trivial
theorem tw1288751902316982623:True:=trivial
theorem tw12885367606503454718:True:=trivial
theorem tw12587572867134856924:True:=trivial
theorem tw12582222673893539026:True:=trivial
theorem tw12423833665408040899:True:=trivial
theorem tw12413583848619991699:True:=trivial
theorem tw12221263630966128237:True:=trivial
theorem tw12209308135942793688:True:=trivial
theorem tw12200430171535564999:True:=trivial
theorem tw12102962532116102999:True:=trivial
theorem tw11903795957046267552:True:=trivial
theorem tw11882378097938407014:True:=trivial
theorem tw11689185456165185288:True:=trivial
theorem tw11585504841282932719:True:=trivial
theorem tw11561372218508460589:True:=trivial
theorem tw1155205053795219197:True:=trivial
theorem tw11545885029419945:True:=trivial
theorem tw11483772663891579740:True:=trivial
theorem tw11182041044622269309:True:=trivial
theorem tw11093733693207725053:True:=trivial
theorem tw10939013763557238995:True:=trivial
theorem tw10852167998539249579:True:=trivial
theorem tw10841620202747614470:True:=trivial
theorem tw10791600745655777453:True:=trivial
theorem tw10719529056300074027:True:=trivial
theorem tw10597856406647102848:True:=trivial
theorem tw1041755042700110138:True:=trivial
theorem tw10259044519648829803:True:=trivial
theorem tw10227140445549534160:True:=trivial
theorem tw10127028494194602579:True:=trivial
end PySem.W.Fast
section
open PySem PySem.W PyProof.Rows
local macro_rules | `(tactic| o_law)=>`(tactic| skip)
local macro_rules | `(tactic| k_head)=>`(tactic| k_headS)
local macro_rules | `(tactic| w_witness2)=>`(tactic| exact ⟨[.list [.int 30]],by decide +kernel,by decide +kernel⟩)
set_option maxHeartbeats 0 in
open_top My.head for PySem.Challenge.rw_wouldrather_s01_answers
end
namespace L2
open PySem PySem.Spec PyProof.Rows
abbrev Key:=Sum Int Str
def keyIs:Key->Value->Bool
 | .inl k,v=>Value.isInt k v
 | .inr x,v=>Value.isStrOf x v
def keyH (w:World):Key->Int
 | .inl k=>hashInt k
 | .inr x=>hashStr w x
theorem keyIs_shape:∀ {k:Key} {v:Value},keyIs k v=true->(∃ i t,k=Sum.inl i/\v=Value.int i t)\/(∃ x t,k=Sum.inr x/\v=Value.str x t)
 | .inl i,v,h=>by
  obtain ⟨t,e⟩:=Value.isInt_shape (k:=i) (v:=v) h
  exact .inl ⟨i,t,rfl,e⟩
 | .inr x,v,h=>by
  obtain ⟨t,e⟩:=Value.isStrOf_shape (x:=x) (v:=v) h
  exact .inr ⟨x,t,rfl,e⟩
theorem keyIs_int (i:Int) (t:Tok):keyIs (.inl i) (.int i t)=true:=by simp [keyIs,Value.isInt]
theorem keyIs_str (x:Str) (t:Tok):keyIs (.inr x) (.str x t)=true:=by simp [keyIs,Value.isStrOf]
theorem key_ll (a b:Int):decide ((Sum.inl a:Key)=Sum.inl b)=(a==b):=by
 by_cases e:a=b
 ·subst e;simp
 ·have h:¬ (Sum.inl a:Key)=Sum.inl b:=fun q=>e (Sum.inl.inj q)
  rw [decide_eq_false h]
  exact (beq_eq_false_iff_ne.mpr e).symm
theorem key_rr (a b:Str):decide ((Sum.inr a:Key)=Sum.inr b)=decide (a=b):=by
 by_cases e:a=b
 ·subst e;simp
 ·have h:¬ (Sum.inr a:Key)=Sum.inr b:=fun q=>e (Sum.inr.inj q)
  rw [decide_eq_false h,decide_eq_false e]
theorem key_lr (a:Int) (b:Str):decide ((Sum.inl a:Key)=Sum.inr b)=false:=decide_eq_false (fun q=>nomatch q)
theorem key_rl (a:Str) (b:Int):decide ((Sum.inr a:Key)=Sum.inl b)=false:=decide_eq_false (fun q=>nomatch q)
def mixKind (prog:Program) (w:World):PySem.KeyKind prog w Key where
 is:=keyIs
 hash:=keyH w
 inj:=fun v a b ha hb=>by
  rcases keyIs_shape ha with ⟨i,t,rfl,rfl⟩ | ⟨x,t,rfl,rfl⟩
  ·rcases keyIs_shape hb with ⟨j,u,rfl,e⟩ | ⟨y,u,rfl,e⟩
   ·injection e with e1 _;rw [e1]
   ·exact nomatch e
  ·rcases keyIs_shape hb with ⟨j,u,rfl,e⟩ | ⟨y,u,rfl,e⟩
   ·exact nomatch e
   ·injection e with e1 _;rw [e1]
 byValue:=fun k v h=>by
  rcases keyIs_shape h with ⟨i,t,rfl,rfl⟩ | ⟨x,t,rfl,rfl⟩ <;> rfl
 pyHash:=fun hv h=>by
  rcases keyIs_shape hv with ⟨i,t,rfl,rfl⟩ | ⟨x,t,rfl,rfl⟩
  ·exact wpAny_pyHash_int h
  ·exact wpAny_pyHash_str h
 eqBool:=fun hu hv h=>by
  rcases keyIs_shape hu with ⟨i,t,rfl,rfl⟩ | ⟨x,t,rfl,rfl⟩
  ·rcases keyIs_shape hv with ⟨j,u,rfl,rfl⟩ | ⟨y,u,rfl,rfl⟩
   ·rw [key_ll] at h;exact wpAny_eqBool_int h
   ·rw [key_lr] at h;exact SeqAt.EqAt.int_str i t y u _ _ _ _ h
  ·rcases keyIs_shape hv with ⟨j,u,rfl,rfl⟩ | ⟨y,u,rfl,rfl⟩
   ·rw [key_rl] at h;exact SeqAt.EqAt.str_int x t j u _ _ _ _ h
   ·rw [key_rr] at h;exact wpAny_eqBool_str h
 «strs»:=fun k x t v h=>by
  rcases keyIs_shape h with ⟨i,u,rfl,e⟩ | ⟨y,u,rfl,e⟩
  ·exact nomatch e
  ·injection e with e1 _
   subst e1
   cases v <;> rfl
theorem mixKind_int (prog:Program) (w:World) (i:Int) (t:Tok):(mixKind prog w).is (.inl i) (.int i t)=true:=keyIs_int i t
theorem mixKind_str (prog:Program) (w:World) (x:Str) (t:Tok):(mixKind prog w).is (.inr x) (.str x t)=true:=keyIs_str x t
end L2
namespace L2
open PySem PySem.Spec PyProof.Rows
inductive V where
 | non | bl (b:Bool) | int (i:Int) | str (x:Str) | byt (b:Array UInt8) | flt (b:UInt64) | ref (a:Addr) | ty (n:String)
 deriving DecidableEq
def RelV:V->Value->Prop
 | .non,u=>u=Value.none
 | .bl b,u=>u=Value.bool b
 | .int i,u=>∃ t,u=Value.int i t
 | .str x,u=>∃ t,u=Value.str x t
 | .byt b,u=>∃ t,u=Value.bytes b t
 | .flt b,u=>∃ t,u=Value.float b t
 | .ref a,u=>u=Value.ref a
 | .ty n,u=>u=Value.type n
abbrev Vals:List V->List Value->Prop:=Paired RelV
theorem Vals.length {xs:List V} {us:List Value} (r:Vals xs us):xs.length=us.length:=Paired.length r
theorem Vals.get:∀ {xs:List V} {us:List Value} {i:Nat} {x:V},Vals xs us->xs[i]?=some x->∃ u,us[i]?=some u/\RelV x u
 | _,_,_,_,.nil,e=>by simp at e
 | _,_,0,_,.cons r _,e=>by simp at e;subst e;exact ⟨_,rfl,r⟩
 | _,_,i+1,x,.cons _ t,e=>by
  obtain ⟨u,h1,h2⟩:=Vals.get (i:=i) (x:=x) t (by simpa using e)
  exact ⟨u,by simpa using h1,h2⟩
theorem Vals.set {x:V} {u:Value} (r:RelV x u):∀ {xs:List V} {us:List Value} (i:Nat),Vals xs us->Vals (xs.set i x) (us.set i u)
 | _,_,_,.nil=>.nil
 | _,_,0,.cons _ t=>.cons r t
 | _,_,i+1,.cons q t=>.cons q (Vals.set r i t)
theorem Vals.append:∀ {xs ys:List V} {us ws:List Value},Vals xs us->Vals ys ws->Vals (xs++ys) (us++ws)
 | _,_,_,_,.nil,s=>s
 | _,_,_,_,.cons r t,s=>.cons r (Vals.append t s)
theorem Vals.take:∀ {xs:List V} {us:List Value} (n:Nat),Vals xs us->Vals (xs.take n) (us.take n)
 | _,_,0,_=>.nil
 | _,_,_+1,.nil=>.nil
 | _,_,n+1,.cons r t=>.cons r (Vals.take n t)
theorem Vals.drop:∀ {xs:List V} {us:List Value} (n:Nat),Vals xs us->Vals (xs.drop n) (us.drop n)
 | _,_,0,r=>r
 | _,_,_+1,.nil=>.nil
 | _,_,n+1,.cons _ t=>Vals.drop n t
def RelO:Option V->Option Value->Prop
 | some v,some u=>RelV v u
 | none,none=>True
 | _,_=>False
def KV {κ:Type}:List (κ × V)->List (κ × Value)->Prop:=Paired fun (p:κ × V) (q:κ × Value)=>p.1=q.1/\RelV p.2 q.2
def kV:Key->V
 | .inl i=>.int i
 | .inr x=>.str x
inductive HO where
 | lst (xs:List V)
 | tup (xs:List V)
 | dK (kvs:List (Key × V)) | dT (kvs:List (List Key × V))
 | set (S:Int->Bool) (n:Nat)
 | ins (C dx:Addr) (fs:List (Str × V))
 | own (x:Addr)
 | xd (fs:List (Str × V))
 | met (f x:Addr)
 | rng (lo hi:Int)
 | frz (o:Obj) (u:HO)
 | tbl (ps:Array Value)
 | ext (φ:Heap->Prop)
abbrev Hp:=Addr->Option HO
def upd (H:Hp) (a:Addr) (o:HO):Hp:=fun b=>if b=a then some o else H b
theorem upd_same {H:Hp} {a:Addr} {o:HO}:upd H a o a=some o:=by unfold upd;rw [if_pos rfl]
theorem upd_ne {H:Hp} {a b:Addr} {o:HO} (h:b ≠ a):upd H a o b=H b:=by unfold upd;rw [if_neg h]
theorem upd_upd {H:Hp} {a:Addr} {o u:HO}:upd (upd H a o) a u=upd H a u:=by
 funext b;unfold upd;split <;> rfl
theorem ne_of {H:Hp} {a b:Addr} {o u:HO} (h:H a=some o) (h':H b=some u) (d:o ≠ u):a ≠ b:=by
 intro e;subst e;rw [h] at h';exact d (Option.some.inj h')
theorem ne_of_none {H:Hp} {a b:Addr} {o:HO} (h:H a=some o) (h':H b=none):a ≠ b:=by
 intro e;subst e;rw [h] at h';cases h'
section
variable (P:Program) (w:World)
def ObjOk (H:Hp) (h:Heap) (a:Addr):HO->Prop
 | .lst xs=>xs.length<=sizeLine/\∃ (its:List Value) (n:Nat),Vals xs its/\h.get? a=some { cls:=.type "list",data:=.seq its.toArray n }
 | .tup xs=>xs.length<=sizeLine/\∃ its:List Value,Vals xs its/\IsTup h a its.toArray
 | .dK kvs=>kvs.length<=sizeLine/\(a==sysModules)=false/\∃ vs,KV kvs vs/\h.DictOf (mixKind P w) a vs
 | .dT kvs=>kvs.length<=sizeLine/\(a==sysModules)=false/\∃ xs:List (List Key × Addr × Value),
   Paired (fun (p:List Key × V) (q:List Key × Addr × Value)=>p.1=q.1/\H q.2.1=some (.tup (p.1.map kV))/\RelV p.2 q.2.2) kvs xs/\
   ∃ o es ep,h.get? a=some o/\o.ExactDict/\o.data=.dict es ep/\es.toList=xs.map (entryOfKey (tupleKind (mixKind P w)))/\(xs.map (·.1)).Nodup
 | .set S n=>h.SetOf (intKind P w) a S n
 | .ins C dx fs=>H dx=some (.own a)/\fs.length<=1000/\dx ≠ a/\h.get? a=some (PySem.W.instObj C dx)/\
   ∃ mA,h.Ns1 dx mA/\(∀ f,RelO (fs.lookup f) (mA f))/\PySem.Within mA (fs.map (·.1))
 | .own _=>∃ o,h.get? a=some o
 | .xd fs=>∃ mA,h.Ns1 a mA/\∀ f,RelO (fs.lookup f) (mA f)
 | .rng lo hi=>∃ t u v,h.get? a=some { cls:=.type "range",data:=.fields #[.int lo t,.int hi u,.int 1 v] }
 | .frz o u=>h.get? a=some o/\ObjOk H h a u
 | .tbl ps=>h.get? a=some { cls:=.none,data:=.fields ps }
 | .met f x=>h.get? a=some (PySem.W.methodObj (.ref f) (.ref x))
 | .ext φ=>φ h/\(∃ o,h.get? a=some o)/\∀ h1 h2:Heap,φ h1->(∀ o,h1.get? a=some o->h2.get? a=some o)->φ h2
def HOk (H:Hp) (h:Heap):Prop:=∀ a o,H a=some o->ObjOk P w H h a o
end
section
variable {P:Program} {w:World} {H H':Hp} {h h':Heap} {a:Addr} {o:HO}
theorem ObjOk.lt (x:ObjOk P w H h a o):a<h.objs.size:=by
 cases o with
 | lst xs=>obtain ⟨_,_,_,_,e⟩:=x;exact Heap.lt_size e
 | tup xs=>obtain ⟨_,_,_,p⟩:=x;exact p.lt
 | dK kvs=>obtain ⟨_,_,_,_,o,_,_,e,_⟩:=x;exact Heap.lt_size e
 | dT kvs=>obtain ⟨_,_,_,_,o,_,_,e,_⟩:=x;exact Heap.lt_size e
 | set S n=>obtain ⟨o,_,_,_,e,_⟩:=x;exact Heap.lt_size e
 | ins C dx fs=>obtain ⟨_,_,_,e,_⟩:=x;exact Heap.lt_size e
 | own y=>obtain ⟨_,e⟩:=x;exact Heap.lt_size e
 | xd fs=>obtain ⟨_,⟨_,_,_,e,_⟩,_⟩:=x;exact Heap.lt_size e
 | rng lo hi=>obtain ⟨_,_,_,e⟩:=x;exact Heap.lt_size e
 | frz ob u=>obtain ⟨e,_⟩:=x;exact Heap.lt_size e
 | tbl ps=>exact Heap.lt_size (show h.get? a=some _ from x)
 | met f y=>exact Heap.lt_size (show h.get? a=some _ from x)
 | ext φ=>obtain ⟨_,⟨_,e⟩,_⟩:=x;exact Heap.lt_size e
theorem Paired.mapP {α β:Type} {F G:α->β->Prop}:∀ {l₁:List α} {l₂:List β},Paired F l₁ l₂->(∀ a b,F a b->G a b)->Paired G l₁ l₂
 | _,_,.nil,_=>.nil
 | _,_,.cons r t,f=>.cons (f _ _ r) (Paired.mapP t f)
theorem ObjOk.stay (x:ObjOk P w H h a o) (k:∀ b u,(b=a\/H b=some (.own a))->h.get? b=some u->h'.get? b=some u)
  (ho:∀ b,H b=some (.own a)->H' b=some (.own a)) (ht:∀ b xs,H b=some (.tup xs)->H' b=some (.tup xs)):ObjOk P w H' h' a o:=by
 induction o with
 | lst xs=>obtain ⟨z,its,n,r,e⟩:=x;exact ⟨z,its,n,r,k _ _ (.inl rfl) e⟩
 | tup xs=>obtain ⟨z,its,r,ob,e,c⟩:=x;exact ⟨z,its,r,ob,k _ _ (.inl rfl) e,c⟩
 | dK kvs=>obtain ⟨z,y,vs,r,ob,es,ep,e,c⟩:=x;exact ⟨z,y,vs,r,ob,es,ep,k _ _ (.inl rfl) e,c⟩
 | dT kvs=>
  obtain ⟨z,y,xs,r,ob,es,ep,e,c⟩:=x
  exact ⟨z,y,xs,Paired.mapP r fun p q z=>⟨z.1,ht _ _ z.2.1,z.2.2⟩,ob,es,ep,k _ _ (.inl rfl) e,c⟩
 | set S n=>obtain ⟨ob,es,ep,t,e,c⟩:=x;exact ⟨ob,es,ep,t,k _ _ (.inl rfl) e,c⟩
 | ins C dx fs=>
  obtain ⟨d,z,ne,e,mA,⟨od,es,ep,e2,c⟩,r⟩:=x
  exact ⟨ho _ d,z,ne,k _ _ (.inl rfl) e,mA,⟨od,es,ep,k _ _ (.inr d) e2,c⟩,r⟩
 | own y=>obtain ⟨ob,e⟩:=x;exact ⟨ob,k _ _ (.inl rfl) e⟩
 | xd fs=>obtain ⟨mA,⟨od,es,ep,e,c⟩,r⟩:=x;exact ⟨mA,⟨od,es,ep,k _ _ (.inl rfl) e,c⟩,r⟩
 | rng lo hi=>obtain ⟨t,u,v,e⟩:=x;exact ⟨t,u,v,k _ _ (.inl rfl) e⟩
 | frz ob u ih=>obtain ⟨e,q⟩:=x;exact ⟨k _ _ (.inl rfl) e,ih q⟩
 | tbl ps=>
  have e:h.get? a=some { cls:=.none,data:=.fields ps }:=x
  show h'.get? a=some { cls:=.none,data:=.fields ps }
  exact k a _ (.inl rfl) e
 | met f y=>
  have e:h.get? a=some (PySem.W.methodObj (.ref f) (.ref y)):=x
  show h'.get? a=some (PySem.W.methodObj (.ref f) (.ref y))
  exact k a _ (.inl rfl) e
 | ext φ=>obtain ⟨p,⟨o,e⟩,st⟩:=x;exact ⟨st _ _ p fun o q=>k _ _ (.inl rfl) q,⟨o,k _ _ (.inl rfl) e⟩,st⟩
theorem HOk.lt (x:HOk P w H h) (e:H a=some o):a<h.objs.size:=(x a o e).lt
theorem HOk.fresh (x:HOk P w H h) (e:h.objs.size<=a):H a=none:=by
 cases q:H a with
 | none=>rfl
 | some u=>exact absurd (Nat.lt_of_lt_of_le (x.lt q) e) (Nat.lt_irrefl _)
theorem HOk.kept (x:HOk P w H h) (k:∀ b u,h.get? b=some u->h'.get? b=some u):HOk P w H h':=fun a o e=>
 (x a o e).stay (fun b u _ q=>k b u q) (fun _ q=>q) fun _ _ q=>q
theorem HOk.laid (x:HOk P w H h) (k:∀ b u,h.get? b=some u->h'.get? b=some u) (hp:h.objs.size<=a) (new:ObjOk P w (upd H a o) h' a o):HOk P w (upd H a o) h':=fun b u e=>by
 have hn:=x.fresh hp
 by_cases hb:b=a
 ·subst hb;rw [upd_same] at e;cases e;exact new
 ·rw [upd_ne hb] at e
  exact (x b u e).stay (fun c v _ q=>k c v q) (fun c q=>by rw [upd_ne (ne_of_none q hn)];exact q) fun c xs q=>by rw [upd_ne (ne_of_none q hn)];exact q
end
def Rd (H:Hp) (a:Addr) (u:HO):Prop:=H a=some u\/∃ o,H a=some (.frz o u)
theorem Rd.ok {P:Program} {w:World} {H:Hp} {h:Heap} {a:Addr} {u:HO} (r:Rd H a u) (x:HOk P w H h):ObjOk P w H h a u:=by
 rcases r with r | ⟨o,r⟩
 ·exact x a u r
 ·obtain ⟨_,q⟩:=x a _ r
  exact q
def Mut:Option HO->Prop
 | some (.lst _)=>True
 | some (.dK _)=>True
 | some (.dT _)=>True
 | some (.set _ _)=>True
 | some (.ins _ _ _)=>True
 | some (.ext _)=>True
 | _=>False
section
variable {P:Program} {w:World} {H:Hp} {h h':Heap} {x e:Addr} {o':HO}
theorem HOk.write (ok:HOk P w H h) (mu:Mut (H x)) (he:e=x\/H e=some (.own x)) (k:∀ b u,b ≠ e->h.get? b=some u->h'.get? b=some u) (heo:∃ u,h'.get? e=some u)
  (new:ObjOk P w (upd H x o') h' x o'):HOk P w (upd H x o') h':=fun b u q=>by
 have nown:∀ c y,H c=some (.own y)->c ≠ x:=fun c y r z=>by subst z;rw [r] at mu;exact mu
 have ntup:∀ c xs,H c=some (.tup xs)->c ≠ x:=fun c xs r z=>by subst z;rw [r] at mu;exact mu
 by_cases hb:b=x
 ·subst hb;rw [upd_same] at q;cases q;exact new
 ·rw [upd_ne hb] at q
  by_cases hbe:b=e
  ·have q':H b=some (.own x):=by
    rcases he with z | z
    ·exact absurd (hbe.trans z) hb
    ·rw [hbe];exact z
   rw [q] at q';cases q'
   obtain ⟨v,hv⟩:=heo
   exact ⟨v,by rw [hbe];exact hv⟩
  ·refine (ok b u q).stay (fun c v hc r=>k c v ?_ r) (fun c r=>by rw [upd_ne (nown c b r)];exact r) fun c xs r=>by rw [upd_ne (ntup c xs r)];exact r
   rcases hc with rfl | hc
   ·exact hbe
   ·rintro rfl
    rcases he with z | z
    ·exact nown c b hc z
    ·rw [hc] at z;cases z;exact hb rfl
end
structure Un (fs ex:List Addr) (H H':Hp) (h h':Heap):Prop where
 keep:∀ b o,h.get? b=some o->H b=none->b ∉ fs->b ∉ ex->h'.get? b=some o
 slot:∀ b o,h.get? b=some o->H b=none->b ∈ fs->b ∉ ex->∃ sl,h'.get? b=some { o with slots:=sl }
 free:∀ b o,h.get? b=some o->H b=none->b ∉ ex->H' b=none
 there:∀ b o,h.get? b=some o->b ∉ ex->∃ o',h'.get? b=some o'
 tups:∀ b xs,H b=some (.tup xs)->H' b=some (.tup xs)
 frzs:∀ b o u,H b=some (.frz o u)->H' b=some (.frz o u)
 tbls:∀ b ps,H b=some (.tbl ps)->∃ more,H' b=some (.tbl (ps++more))
section
variable {fs fs' ex ex':List Addr} {H H1 H2:Hp} {h h1 h2 h':Heap} {a x e:Addr} {o:HO}
theorem Un.any (u:Un fs ex H H1 h h1) {b:Addr} {ob:Obj} (q:h.get? b=some ob) (n:H b=none) (hx:b ∉ ex):∃ sl,h1.get? b=some { ob with slots:=sl }:=by
 by_cases hb:b ∈ fs
 ·exact u.slot b ob q n hb hx
 ·exact ⟨ob.slots,u.keep b ob q n hb hx⟩
theorem Un.kept (k:∀ b u,h.get? b=some u->h'.get? b=some u):Un fs ex H H h h':=
 ⟨fun b ob q _ _ _=>k b ob q,fun b ob q _ _ _=>⟨ob.slots,k b ob q⟩,fun _ _ _ n _=>n,fun b ob q _=>⟨ob,k b ob q⟩,fun _ _ q=>q,fun _ _ _ q=>q,fun _ ps q=>⟨#[],by rw [q];simp⟩⟩
theorem Un.refl:Un fs ex H H h h:=Un.kept fun _ _ q=>q
theorem Un.laid (k:∀ b u,h.get? b=some u->h'.get? b=some u) (hp:h.objs.size<=a) (hn:H a=none):Un fs ex H (upd H a o) h h' where
 keep:=fun b u q _ _ _=>k b u q
 slot:=fun b u q _ _ _=>⟨u.slots,k b u q⟩
 free:=fun b u q n _=>by rw [upd_ne (Nat.ne_of_lt (Nat.lt_of_lt_of_le (Heap.lt_size q) hp))];exact n
 there:=fun b u q _=>⟨u,k b u q⟩
 tups:=fun b xs q=>by rw [upd_ne (ne_of_none q hn)];exact q
 frzs:=fun b u xs q=>by rw [upd_ne (ne_of_none q hn)];exact q
 tbls:=fun b ps q=>⟨#[],by rw [upd_ne (ne_of_none q hn),q];simp⟩
theorem Un.write (mu:Mut (H x)) (he:e=x\/H e=some (.own x)) (k:∀ b u,b ≠ e->h.get? b=some u->h'.get? b=some u) (heo:∃ u,h'.get? e=some u):Un fs ex H (upd H x o) h h':=by
 have hx:∀ b,H b=none->b ≠ x:=fun b n z=>by subst z;rw [n] at mu;exact mu
 have hb:∀ b,H b=none->b ≠ e:=fun b n z=>by
  subst z
  rcases he with r | r
  ·exact hx b n r
  ·rw [n] at r;cases r
 have hm:∀ b u,H b=some u->¬ Mut (some u)->b ≠ x:=fun b u q nm z=>by subst z;rw [q] at mu;exact nm mu
 refine ⟨fun b u q n _ _=>k b u (hb b n) q,fun b u q n _ _=>⟨u.slots,k b u (hb b n) q⟩,fun b u q n _=>by rw [upd_ne (hx b n)];exact n,fun b u q _=>?_,
  fun b xs q=>by rw [upd_ne (hm b _ q fun z=>z)];exact q,fun b u xs q=>by rw [upd_ne (hm b _ q fun z=>z)];exact q,fun b ps q=>⟨#[],by rw [upd_ne (hm b _ q fun z=>z),q];simp⟩⟩
 by_cases hbe:b=e
 ·subst hbe;exact heo
 ·exact ⟨u,k b u hbe q⟩
end
def trk (h:Heap) (H:Hp):List Addr:=(List.range h.objs.size).filter fun a=>(H a).isSome
def hidT (h:Heap) (H:Hp):Heap:=PySem.W.hideAll h (trk h H)
theorem hidT_size (h:Heap) (H:Hp):(hidT h H).objs.size=h.objs.size:=PySem.W.hideAll_size _ _
theorem hidT_get {h:Heap} {H:Hp} {b:Addr} {o:Obj} (e:h.get? b=some o) (n:H b=none):(hidT h H).get? b=some o:=
 PySem.W.hideAll_get _ e fun hm=>by
  have q:(H b).isSome=true:=(List.mem_filter.mp hm).2
  rw [n] at q;simp at q
theorem of_hidT {h:Heap} {H:Hp} {b:Addr} {o:Obj} (e:(hidT h H).get? b=some o):h.get? b=some o/\H b=none:=by
 have e':h.get? b=some o:=PySem.W.of_hideAll (trk h H) e
 refine ⟨e',?_⟩
 cases q:H b with
 | none=>rfl
 | some x=>
  have hm:b ∈ trk h H:=List.mem_filter.mpr ⟨List.mem_range.mpr (Heap.lt_size e'),by simp [q]⟩
  have z:(hidT h H).get? b=none:=PySem.W.hideAll_none (trk h H) hm
  rw [z] at e;cases e
def allNews (g h:Heap) (L:Addr):List (Addr × Obj):=(List.range h.objs.size).filterMap fun a=>if a=L\/(g.get? a).isSome=true then none else (h.get? a).map fun o=>(a,o)
theorem mem_allNews {g h:Heap} {L a:Addr} {o:Obj} (h1:a ≠ L) (h2:g.get? a=none) (h3:h.get? a=some o):(a,o) ∈ allNews g h L:=
 List.mem_filterMap.mpr ⟨a,List.mem_range.mpr (Heap.lt_size h3),by simp [h1,h2,h3]⟩
theorem of_mem_allNews {g h:Heap} {L:Addr} {p:Addr × Obj} (hp:p ∈ allNews g h L):p.1 ≠ L/\g.get? p.1=none/\h.get? p.1=some p.2:=by
 obtain ⟨b,_,e⟩:=List.mem_filterMap.mp hp
 split at e
 ·cases e
 ·rename_i hn
  cases q:h.get? b with
  | none=>rw [q] at e;simp at e
  | some u=>
   rw [q] at e
   simp only [Option.map_some,Option.some.injEq] at e
   subst e
   refine ⟨fun z=>hn (.inl z),?_,q⟩
   show g.get? b=none
   cases r:g.get? b with
   | none=>rfl
   | some v=>exact (hn (.inr (by simp [r]))).elim
theorem news_all {g h:Heap} {L:Addr}:News g L h (allNews g h L):=fun p hp=>let ⟨a,b,c⟩:=of_mem_allNews hp;⟨c,a,b⟩
end L2
namespace L2
open PySem PySem.Spec PyProof.Rows
structure Mod (K:PySem.W.Frag) (mg:Str->Option Value) (base:Heap):Prop where
 kin:K.In base
 glob:base.Ns mainGlobals mg
 blt:∃ mb,base.Ns builtinsNs mb/\∀ x:Str,x ≠ "__name__"->mb x=bootBuiltins x
 nolimit:base.NoLimit
structure Cx where
 prog:Program
 w:World
 K:PySem.W.Frag
 mg:Str->Option Value
 base:Heap
 A:Around
 N:List Str
 s_0:Shared
 H_0:Hp
 env:Env
 outer:List Env
 stack:List Env
 ex:List Addr
 fn:Str->Bool
 calm:Bool
 pn:List (Addr × Obj)
 xe:Value->Shared->Prop
def frs (l:List Env):List Addr:=l.filterMap (·.frame)
abbrev Cx.fs (X:Cx):List Addr:=frs X.outer
def Vis (sc:Scope) (x:Str):Prop:=sc.names.lookup x=some .local\/sc.names.lookup x=some .cell\/sc.names.lookup x=some .free
def Loc (sc:Scope) (x:Str):Prop:=sc.names.lookup x=some .local\/sc.names.lookup x=some .cell
def Look (env:Env) (h:Heap) (m:Str->Option Value) (x:Str) (u:Value):Prop:=
 (env.kindOf x=some .local/\m x=some u)\/((env.kindOf x=some .cell\/env.kindOf x=some .free)/\∃ c,env.cells.lookup x=some c/\h.IsCell c (some u))
structure Cx.Ok (X:Cx):Prop where
 mod:Mod X.K X.mg X.base
 kind:X.env.scope.kind=.function
 glob:X.env.globals=mainGlobals
 blt:X.env.builtins=builtinsNs
 above:X.s_0.heap.objs.size<=X.env.locals
 inj:∀ x y c,X.env.cells.lookup x=some c->X.env.cells.lookup y=some c->x=y
 has:∀ x,(X.env.kindOf x=some .cell\/X.env.kindOf x=some .free)->∃ c,X.env.cells.lookup x=some c
 cab:∀ x c,X.fn x=true->X.env.cells.lookup x=some c->X.s_0.heap.objs.size<=c
 hd:X.calm=true->X.A.handled=none
 frames:X.A.frames=some X.stack
 stk:X.stack=X.outer\/(X.stack=X.env::X.outer/\X.env.frame=some X.env.locals)
 exf:∀ b ∈ X.ex,b ≠ X.env.locals/\∀ x c,X.env.cells.lookup x=some c->c ≠ b
 bs:∀ b o,X.base.get? b=some o->X.s_0.heap.get? b=some o/\X.H_0 b=none
 bsz:X.base.objs.size<=X.s_0.heap.objs.size
 noex:∀ b o,X.base.get? b=some o->b ∉ X.ex
 exfs:∀ b ∈ X.ex,b ∉ X.fs
 funs:X.s_0.heap.FunFrames X.base X.outer
 frf:∀ b ∈ X.fs,X.H_0 b=none
structure Inv (X:Cx) (pins:List (Addr × Obj)) (σ:List (Option V)) (H:Hp) (s:Shared):Prop where
 ok:X.Ok
 os:s.os=X.s_0.os
 bare:AllBare s.gens
 base:Un X.fs X.ex X.H_0 H X.s_0.heap s.heap
 loc:∃ m,s.heap.Ns X.env.locals m/\∀ (i:Nat) (x:Str) (v:V),X.N[i]?=some x->σ[i]?=some (some v)->Vis X.env.scope x->∃ u,RelV v u/\Look X.env s.heap m x u
 cell:∀ x c,X.env.cells.lookup x=some c->∃ v,s.heap.IsCell c v
 free:H X.env.locals=none
 freeC:∀ x c,X.env.cells.lookup x=some c->H c=none
 pin:∀ p ∈ X.pn++pins,s.heap.get? p.1=some p.2/\H p.1=none/\p.1 ≠ X.env.locals/\p.1 ∉ X.fs/\∀ v,p.2.data ≠ .cell v
 hok:HOk X.prog X.w H s.heap
 len:σ.length=X.N.length
section
variable {X:Cx} {pins:List (Addr × Obj)} {σ:List (Option V)} {H H':Hp} {s:Shared} {h':Heap}
theorem Cx.Ok.nofr (ok:X.Ok) {b:Addr} {o:Obj} (e:X.base.get? b=some o):b ∉ X.fs:=fun hb=>by
 have:=(ok.funs.mem hb).1
 rw [e] at this;cases this
theorem Inv.bs (I:Inv X pins σ H s):∀ b o,X.base.get? b=some o->s.heap.get? b=some o/\H b=none:=fun b o e=>
 ⟨I.base.keep b o (I.ok.bs b o e).1 (I.ok.bs b o e).2 (I.ok.nofr e) (I.ok.noex b o e),I.base.free b o (I.ok.bs b o e).1 (I.ok.bs b o e).2 (I.ok.noex b o e)⟩
theorem Inv.bk (I:Inv X pins σ H s):∀ b o,X.base.get? b=some o->s.heap.get? b=some o:=fun b o e=>(I.bs b o e).1
theorem Inv.mod (I:Inv X pins σ H s):Mod X.K X.mg X.base:=I.ok.mod
theorem Inv.kIn (I:Inv X pins σ H s):X.K.In s.heap:=I.ok.mod.kin.keeps I.bk
theorem Inv.fr (I:Inv X pins σ H s):∃ m,Fr X.base X.env.locals s.heap m:=
 let ⟨m,hn,_⟩:=I.loc
 ⟨m,hn,I.bk,Nat.le_trans I.ok.bsz I.ok.above⟩
theorem Inv.lt (I:Inv X pins σ H s):X.env.locals<s.heap.objs.size:=let ⟨_,hn,_⟩:=I.loc;hn.lt
theorem Inv.sz (I:Inv X pins σ H s):X.s_0.heap.objs.size<=s.heap.objs.size:=Nat.le_trans I.ok.above (Nat.le_of_lt I.lt)
theorem Inv.nofs (I:Inv X pins σ H s) {a:Addr} (h:s.heap.objs.size<=a):a ∉ X.fs:=fun hb=>by
 obtain ⟨_,o,ho,_⟩:=I.ok.funs.mem hb
 exact absurd (Nat.lt_of_lt_of_le (Heap.lt_size ho) (Nat.le_trans I.sz h)) (Nat.lt_irrefl _)
theorem Inv.cne (I:Inv X pins σ H s):∀ x c,X.env.cells.lookup x=some c->c ≠ X.env.locals:=fun x c e z=>by
 obtain ⟨v,o,ho,hd⟩:=I.cell x c e
 obtain ⟨m,⟨o',es,ep,ho',hd',_⟩,_⟩:=I.loc
 rw [z,ho'] at ho;cases ho;rw [hd'] at hd;cases hd
theorem Inv.funs (I:Inv X pins σ H s):s.heap.FunFrames X.base X.outer:=by
 have all:∀ (l:List Env),(∀ b ∈ frs l,b ∈ X.fs)->X.s_0.heap.FunFrames X.base l->s.heap.FunFrames X.base l:=by
  intro l
  induction l with
  | nil=>intro _ _;trivial
  | cons env r ih=>
   intro hs hl
   obtain ⟨hk,⟨L,o,hf,hn,ho,hd⟩,hr⟩:=hl
   have hL:L ∈ X.fs:=hs L (by unfold frs;rw [List.filterMap_cons,hf];exact List.mem_cons_self)
   obtain ⟨sl,e⟩:=I.base.slot L o ho (I.ok.frf L hL) hL fun z=>I.ok.exfs L z hL
   exact ⟨hk,⟨L,_,hf,hn,e,hd⟩,ih (fun b hb=>hs b (by unfold frs;rw [List.filterMap_cons,hf];exact List.mem_cons_of_mem _ hb)) hr⟩
 exact all X.outer (fun _ hb=>hb) I.ok.funs
theorem Inv.stack (I:Inv X pins σ H s):s.heap.FunFrames X.base X.stack:=by
 rcases I.ok.stk with e | ⟨e,hf⟩
 ·rw [e];exact I.funs
 ·rw [e]
  obtain ⟨m,hn,_⟩:=I.loc
  refine .cons (by rw [I.ok.kind];decide) hf hn ?_ I.funs
  exact Heap.get?_none_of_le (Nat.le_trans I.ok.bsz I.ok.above)
theorem Inv.stkSub (I:Inv X pins σ H s):∀ b ∈ frs X.stack,b ∈ X.env.locals::X.fs:=fun b hb=>by
 rcases I.ok.stk with e | ⟨e,hf⟩
 ·rw [e] at hb;exact List.mem_cons_of_mem _ hb
 ·rw [e] at hb
  unfold frs at hb
  rw [List.filterMap_cons,hf] at hb
  exact hb
theorem Inv.stkFree (I:Inv X pins σ H s):∀ b ∈ frs X.stack,H b=none:=fun b hb=>by
 rcases List.mem_cons.mp (I.stkSub b hb) with e | hb
 ·rw [e];exact I.free
 ·obtain ⟨_,o,ho,_⟩:=I.ok.funs.mem hb
  exact I.base.free b o ho (I.ok.frf b hb) fun z=>I.ok.exfs b z hb
theorem Inv.step {g':Array GenState} {t':Nat} {d':Drawn} {ch:List Addr} (I:Inv X pins σ H s)
  (hch:∀ b ∈ ch,(b ∈ X.ex\/X.s_0.heap.objs.size<=b)/\b ≠ X.env.locals/\(∀ x c,X.env.cells.lookup x=some c->c ≠ b)/\∀ p ∈ X.pn++pins,p.1 ≠ b)
  (keep:∀ b o,b ≠ X.env.locals->b ∉ X.fs->b ∉ ch->s.heap.get? b=some o->H b=none->h'.get? b=some o)
  (slot:∀ b o,b ≠ X.env.locals->b ∈ X.fs->b ∉ ch->s.heap.get? b=some o->H b=none->∃ sl,h'.get? b=some { o with slots:=sl }) (free:∀ b o,b ∉ ch->s.heap.get? b=some o->H b=none->H' b=none)
  (there:∀ b o,b ∉ ch->s.heap.get? b=some o->∃ o',h'.get? b=some o')
  (tups:∀ b xs,H b=some (.tup xs)->H' b=some (.tup xs)) (frzs:∀ b o u,H b=some (.frz o u)->H' b=some (.frz o u)) (tbls:∀ b ps,H b=some (.tbl ps)->∃ more,H' b=some (.tbl (ps++more)))
  (ns:∀ m,s.heap.Ns X.env.locals m->h'.Ns X.env.locals m) (hok:HOk X.prog X.w H' h') (hg:AllBare g') :
  Inv X pins σ H' { s with heap:=h',gens:=g',drawn:=d',toks:=t' }:=by
 have neL:∀ b o,X.s_0.heap.get? b=some o->b ≠ X.env.locals:=fun b o e=>Nat.ne_of_lt (Nat.lt_of_lt_of_le (Heap.lt_size e) I.ok.above)
 have neC:∀ b o,X.s_0.heap.get? b=some o->b ∉ X.ex->b ∉ ch:=fun b o e hx hb=>by
  rcases (hch b hb).1 with z | z
  ·exact hx z
  ·exact absurd (Nat.lt_of_lt_of_le (Heap.lt_size e) z) (Nat.lt_irrefl _)
 have cellK:∀ x c,X.env.cells.lookup x=some c->∀ v,s.heap.IsCell c v->h'.IsCell c v:=fun x c e v ⟨o,ho,hd⟩=>by
  have nch:c ∉ ch:=fun z=>(hch c z).2.2.1 x c e rfl
  by_cases hc:c ∈ X.fs
  ·obtain ⟨sl,q⟩:=slot c o (I.cne x c e) hc nch ho (I.freeC x c e)
   exact ⟨_,q,hd⟩
  ·exact ⟨o,keep c o (I.cne x c e) hc nch ho (I.freeC x c e),hd⟩
 refine ⟨I.ok,I.os,hg,⟨fun b o e n hb hx=>?_,fun b o e n hb hx=>?_,fun b o e n hx=>?_,fun b o e hx=>?_,fun b xs e=>tups b xs (I.base.tups b xs e),fun b o xs e=>frzs b o xs (I.base.frzs b o xs e),fun b ps e=>?_⟩,?_,fun x c e=>?_,?_,fun x c e=>?_,fun p hp=>?_,hok,I.len⟩
 ·exact keep b o (neL b o e) hb (neC b o e hx) (I.base.keep b o e n hb hx) (I.base.free b o e n hx)
 ·obtain ⟨sl,e1⟩:=I.base.slot b o e n hb hx
  obtain ⟨sl',e2⟩:=slot b _ (neL b o e) hb (neC b o e hx) e1 (I.base.free b o e n hx)
  exact ⟨sl',e2⟩
 ·obtain ⟨o',e1⟩:=I.base.there b o e hx
  exact free b o' (neC b o e hx) e1 (I.base.free b o e n hx)
 ·obtain ⟨o',e1⟩:=I.base.there b o e hx
  exact there b o' (neC b o e hx) e1
 ·obtain ⟨m1,e1⟩:=I.base.tbls b ps e
  obtain ⟨m2,e2⟩:=tbls b _ e1
  exact ⟨m1++m2,by rw [e2,Array.append_assoc]⟩
 ·obtain ⟨m,hn,hl⟩:=I.loc
  refine ⟨m,ns m hn,fun i x v e1 e2 e3=>?_⟩
  obtain ⟨u,r,l⟩:=hl i x v e1 e2 e3
  refine ⟨u,r,?_⟩
  rcases l with l | ⟨k,c,e,z⟩
  ·exact .inl l
  ·exact .inr ⟨k,c,e,cellK x c e _ z⟩
 ·obtain ⟨v,z⟩:=I.cell x c e
  exact ⟨v,cellK x c e v z⟩
 ·obtain ⟨m,⟨o,_,_,ho,_⟩,_⟩:=I.loc
  exact free _ o (fun z=>(hch _ z).2.1 rfl) ho I.free
 ·obtain ⟨v,o,ho,hd⟩:=I.cell x c e
  exact free c o (fun z=>(hch c z).2.2.1 x c e rfl) ho (I.freeC x c e)
 ·obtain ⟨e,n,ne,nf,d⟩:=I.pin p hp
  have nch:p.1 ∉ ch:=fun z=>(hch p.1 z).2.2.2 p hp rfl
  exact ⟨keep p.1 p.2 ne nf nch e n,free p.1 p.2 nch e n,ne,nf,d⟩
theorem Inv.un {t':Nat} (I:Inv X pins σ H s) (u:Un X.fs [] H H' s.heap h') (hok:HOk X.prog X.w H' h'):Inv X pins σ H' { s with heap:=h',toks:=t' }:=by
 obtain ⟨m,⟨o,es,ep,ho,r⟩,_⟩:=id I.loc
 obtain ⟨sl,hL⟩:=u.any ho I.free (by simp)
 exact I.step (g':=s.gens) (d':=s.drawn) (ch:=[]) (fun _ z=>nomatch z) (fun b o _ hb _ e n=>u.keep b o e n hb (by simp)) (fun b o _ hb _ e n=>u.slot b o e n hb (by simp)) (fun b o _ e n=>u.free b o e n (by simp)) (fun b o _ e=>u.there b o e (by simp)) u.tups u.frzs u.tbls (fun m' hm=>by
  obtain ⟨o',es',ep',ho',r'⟩:=hm
  rw [ho] at ho';cases ho'
  exact ⟨_,es',ep',hL,r'⟩) hok I.bare
theorem Inv.call {g':Array GenState} {t':Nat} {d':Drawn} {ch:List Addr} (I:Inv X pins σ H s) (u:Un (frs X.stack) ch H H' s.heap h') (hok:HOk X.prog X.w H' h') (hg:AllBare g')
  (hch:∀ b ∈ ch,(b ∈ X.ex\/X.s_0.heap.objs.size<=b)/\b ≠ X.env.locals/\(∀ x c,X.env.cells.lookup x=some c->c ≠ b)/\∀ p ∈ X.pn++pins,p.1 ≠ b) :
  Inv X pins σ H' { s with heap:=h',gens:=g',drawn:=d',toks:=t' }:=by
 obtain ⟨m,⟨o,es,ep,ho,r⟩,_⟩:=id I.loc
 obtain ⟨sl,hL⟩:=u.any ho I.free fun z=>(hch _ z).2.1 rfl
 exact I.step (ch:=ch) hch (fun b o hL hb hc e n=>u.keep b o e n (fun z=>(List.mem_cons.mp (I.stkSub b z)).elim hL hb) hc) (fun b o _ _ hc e n=>u.any e n hc) (fun b o hc e n=>u.free b o e n hc) (fun b o hc e=>u.there b o e hc) u.tups u.frzs u.tbls (fun m' hm=>by
  obtain ⟨o',es',ep',ho',r'⟩:=hm
  rw [ho] at ho';cases ho'
  exact ⟨_,es',ep',hL,r'⟩) hok hg
theorem Inv.turned {t':Nat} {it:Addr} (I:Inv X pins σ H s) (k:∀ b o,b ≠ it->s.heap.get? b=some o->h'.get? b=some o) (hn:H it=none) (hL:it ≠ X.env.locals)
  (h1:it ∈ X.ex\/X.s_0.heap.objs.size<=it) (h2:∀ x c,X.env.cells.lookup x=some c->c ≠ it) (h3:∀ p ∈ X.pn++pins,p.1 ≠ it):Inv X pins σ H { s with heap:=h',toks:=t' }:=by
 have nit:∀ b u,H b=some u->b ≠ it:=fun b u e z=>by rw [z,hn] at e;cases e
 refine I.step (g':=s.gens) (d':=s.drawn) (ch:=[it]) (fun b hb=>?_) (fun b o _ _ hc e _=>k b o (fun z=>hc (by simp [z])) e) (fun b o _ _ hc e _=>⟨o.slots,k b o (fun z=>hc (by simp [z])) e⟩) (fun _ _ _ _ n=>n)
  (fun b o hc e=>⟨o,k b o (fun z=>hc (by simp [z])) e⟩) (fun _ _ e=>e) (fun _ _ _ e=>e) (fun b ps e=>⟨#[],by rw [e];simp⟩) (fun m hm=>?_) (fun b u e=>?_) I.bare
 ·have e:b=it:=by simpa using hb
  subst e
  exact ⟨h1,hL,h2,h3⟩
 ·obtain ⟨o,es,ep,ho,r⟩:=hm
  exact ⟨o,es,ep,k _ o (Ne.symm hL) ho,r⟩
 ·refine (I.hok b u e).stay (fun c v hc q=>k c v ?_ q) (fun _ q=>q) fun _ _ q=>q
  rcases hc with z | z
  ·rw [z];exact nit b u e
  ·exact nit c _ z
theorem Inv.tok (I:Inv X pins σ H s) (t:Nat):Inv X pins σ H { s with toks:=t }:=I.un (h':=s.heap) (t':=t) Un.refl I.hok
theorem Inv.kept {t':Nat} (I:Inv X pins σ H s) (k:∀ b u,s.heap.get? b=some u->h'.get? b=some u):Inv X pins σ H { s with heap:=h',toks:=t' }:=I.un (Un.kept k) (I.hok.kept k)
theorem Inv.laid {a:Addr} {o:HO} {t':Nat} (I:Inv X pins σ H s) (k:∀ b u,s.heap.get? b=some u->h'.get? b=some u) (hp:s.heap.objs.size<=a) (new:ObjOk X.prog X.w (upd H a o) h' a o) :
  Inv X pins σ (upd H a o) { s with heap:=h',toks:=t' }:=I.un (Un.laid k hp (I.hok.fresh hp)) (I.hok.laid k hp new)
theorem Inv.write {x e:Addr} {o:HO} {t':Nat} (I:Inv X pins σ H s) (mu:Mut (H x)) (he:e=x\/H e=some (.own x)) (k:∀ b u,b ≠ e->s.heap.get? b=some u->h'.get? b=some u) (heo:∃ u,h'.get? e=some u)
  (new:ObjOk X.prog X.w (upd H x o) h' x o):Inv X pins σ (upd H x o) { s with heap:=h',toks:=t' }:=I.un (Un.write mu he k heo) (I.hok.write mu he k heo new)
theorem Inv.weak {σ':List (Option V)} (I:Inv X pins σ H s) (hl:σ'.length=σ.length) (w:∀ (i:Nat) v,σ'[i]?=some (some v)->σ[i]?=some (some v)):Inv X pins σ' H s:=
 ⟨I.ok,I.os,I.bare,I.base,let ⟨m,hn,hl'⟩:=I.loc;⟨m,hn,fun i x v e1 e2 e3=>hl' i x v e1 (w i v e2) e3⟩,I.cell,I.free,I.freeC,I.pin,I.hok,hl.trans I.len⟩
theorem Inv.pins_of {pins':List (Addr × Obj)} (I:Inv X pins σ H s) (h:∀ p ∈ pins',s.heap.get? p.1=some p.2/\H p.1=none/\p.1 ≠ X.env.locals/\p.1 ∉ X.fs/\∀ v,p.2.data ≠ .cell v):Inv X pins' σ H s:=
 ⟨I.ok,I.os,I.bare,I.base,I.loc,I.cell,I.free,I.freeC,fun p hp=>(List.mem_append.mp hp).elim (fun z=>I.pin p (List.mem_append_left _ z)) (h p),I.hok,I.len⟩
theorem nodup_ix {N:List Str} (hN:N.Nodup) {i j:Nat} {x:Str} (a:N[i]?=some x) (b:N[j]?=some x):i=j:=by
 obtain ⟨h1,e1⟩:=List.getElem?_eq_some_iff.mp a
 obtain ⟨h2,e2⟩:=List.getElem?_eq_some_iff.mp b
 exact (List.getElem_inj hN).mp (e1.trans e2.symm)
theorem store_ok2 {M:Model} {A:Around} {E:Value->Shared->Prop} {i:Nat} {x:Str} {v:V} {u:Value} {Q:Unit->Shared->Prop} (I:Inv X pins σ H s) (hN:X.N.Nodup) (hi:X.N[i]?=some x) (hx:Loc X.env.scope x) (r:RelV v u)
  (h:∀ s',Inv X pins (σ.set i (some v)) H s'->(∃ a,Heap.SameBut a s.heap s'.heap/\(a=X.env.locals\/X.env.cells.lookup x=some a))->Q () s') (hf:X.fn x=true\/X.env.scope.names.lookup x=some .local:=by first | exact .inl rfl | exact .inr rfl | assumption):wpAny M A (storeName X.env x u) Q E s:=by
 obtain ⟨m,hn,hl⟩:=id I.loc
 have hcls:(X.env.scope.kind==.class || (X.env.scope.kind==.module && X.env.locals != X.env.globals))=false:=by rw [I.ok.kind];rfl
 have hiσ:i<σ.length:=by rw [I.len];exact (List.getElem?_eq_some_iff.mp hi).1
 have cne:=I.cne
 have tracked:∀ {a:Addr} {h':Heap},(∃ o,s.heap.get? a=some o/\H a=none)->Heap.SameBut a s.heap h'->HOk X.prog X.w H h':=fun {a h'} ha hs b ob e=>by
  obtain ⟨_,_,hfree⟩:=ha
  refine (I.hok b ob e).stay (fun c w' hc q=>(hs.2 c ?_).trans q) (fun _ q=>q) fun _ _ q=>q
  rintro rfl
  rcases hc with rfl | hc
  ·rw [hfree] at e;cases e
  ·rw [hfree] at hc;cases hc
 rcases hx with hk | hk
 ·refine wpAny_storeName_local hk hn (fun h' hn' hs=>?_) hcls
  obtain ⟨oL,_,_,hoL,_⟩:=id hn
  refine h _ ⟨I.ok,I.os,I.bare,⟨fun b o e n hb hx=>?_,fun b o e n hb hx=>?_,I.base.free,fun b o e hx=>?_,I.base.tups,I.base.frzs,I.base.tbls⟩,⟨_,hn',fun j y v' e1 e2 e3=>?_⟩,fun y c e=>?_,I.free,I.freeC,fun p hp=>?_,tracked ⟨oL,hoL,I.free⟩ hs,by simpa using I.len⟩ ⟨_,hs,.inl rfl⟩
  ·exact (hs.2 b (Nat.ne_of_lt (Nat.lt_of_lt_of_le (Heap.lt_size e) I.ok.above))).trans (I.base.keep b o e n hb hx)
  ·obtain ⟨sl,e1⟩:=I.base.slot b o e n hb hx
   exact ⟨sl,(hs.2 b (Nat.ne_of_lt (Nat.lt_of_lt_of_le (Heap.lt_size e) I.ok.above))).trans e1⟩
  ·obtain ⟨o',e1⟩:=I.base.there b o e hx
   exact ⟨o',(hs.2 b (Nat.ne_of_lt (Nat.lt_of_lt_of_le (Heap.lt_size e) I.ok.above))).trans e1⟩
  ·by_cases hj:j=i
   ·subst hj
    rw [hi] at e1;cases e1
    rw [List.getElem?_set_self hiσ] at e2
    cases e2
    exact ⟨u,r,.inl ⟨hk,by simp⟩⟩
   ·rw [List.getElem?_set_ne (Ne.symm hj)] at e2
    obtain ⟨u',r',q⟩:=hl j y v' e1 e2 e3
    refine ⟨u',r',?_⟩
    rcases q with ⟨k,e⟩ | ⟨k,c,e,z⟩
    ·refine .inl ⟨k,?_⟩
     have:y ≠ x:=fun e=>hj (nodup_ix hN e1 (e ▸ hi))
     simp [this,e]
    ·exact .inr ⟨k,c,e,z.sameBut hs (cne y c e)⟩
  ·obtain ⟨w',z⟩:=I.cell y c e
   exact ⟨w',z.sameBut hs (cne y c e)⟩
  ·obtain ⟨e,n,ne,nf,d⟩:=I.pin p hp
   exact ⟨(hs.2 p.1 ne).trans e,n,ne,nf,d⟩
 ·have hfn:X.fn x=true:=by
   rcases hf with z | z
   ·exact z
   ·rw [z] at hk;cases hk
  obtain ⟨c,hc⟩:=I.ok.has x (.inl hk)
  obtain ⟨w',z⟩:=I.cell x c hc
  refine wpAny_storeName_cell I.ok.kind hk hc z (fun h' hc' hs=>?_)
  obtain ⟨oc,hoc,hocd⟩:=id z
  refine h { s with heap:=h' } ⟨I.ok,I.os,I.bare,⟨fun b o e n hb hx=>?_,fun b o e n hb hx=>?_,I.base.free,fun b o e hx=>?_,I.base.tups,I.base.frzs,I.base.tbls⟩,⟨m,hn.sameBut hs (Ne.symm (cne x c hc)),fun j y v' e1 e2 e3=>?_⟩,fun y c' e=>?_,I.free,I.freeC,fun p hp=>?_,tracked ⟨oc,hoc,I.freeC x c hc⟩ hs,by simpa using I.len⟩ ⟨c,hs,.inr hc⟩
  ·exact (hs.2 b (Nat.ne_of_lt (Nat.lt_of_lt_of_le (Heap.lt_size e) (I.ok.cab x c hfn hc)))).trans (I.base.keep b o e n hb hx)
  ·obtain ⟨sl,e1⟩:=I.base.slot b o e n hb hx
   exact ⟨sl,(hs.2 b (Nat.ne_of_lt (Nat.lt_of_lt_of_le (Heap.lt_size e) (I.ok.cab x c hfn hc)))).trans e1⟩
  ·obtain ⟨o',e1⟩:=I.base.there b o e hx
   exact ⟨o',(hs.2 b (Nat.ne_of_lt (Nat.lt_of_lt_of_le (Heap.lt_size e) (I.ok.cab x c hfn hc)))).trans e1⟩
  ·by_cases hj:j=i
   ·subst hj
    rw [hi] at e1;cases e1
    rw [List.getElem?_set_self hiσ] at e2
    cases e2
    exact ⟨u,r,.inr ⟨.inl hk,c,hc,hc'⟩⟩
   ·rw [List.getElem?_set_ne (Ne.symm hj)] at e2
    obtain ⟨u',r',q⟩:=hl j y v' e1 e2 e3
    refine ⟨u',r',?_⟩
    rcases q with q | ⟨k,c',e,z'⟩
    ·exact .inl q
    ·refine .inr ⟨k,c',e,z'.sameBut hs ?_⟩
     rintro rfl
     exact hj (nodup_ix hN e1 (I.ok.inj _ _ _ e hc ▸ hi))
  ·by_cases hcc:c'=c
   ·subst hcc;exact ⟨_,hc'⟩
   ·obtain ⟨w2,z2⟩:=I.cell y c' e
    exact ⟨w2,z2.sameBut hs hcc⟩
  ·obtain ⟨e,n,ne,nf,d⟩:=I.pin p hp
   refine ⟨(hs.2 p.1 ?_).trans e,n,ne,nf,d⟩
   intro q
   rw [q,hoc] at e
   have q':oc=p.2:=Option.some.inj e
   exact d w' (by rw [<-q'];exact hocd)
theorem store_ok {M:Model} {A:Around} {E:Value->Shared->Prop} {i:Nat} {x:Str} {v:V} {u:Value} {Q:Unit->Shared->Prop} (I:Inv X pins σ H s) (hN:X.N.Nodup) (hi:X.N[i]?=some x) (hx:Loc X.env.scope x) (r:RelV v u)
  (h:∀ s',Inv X pins (σ.set i (some v)) H s'->Q () s') (hf:X.fn x=true\/X.env.scope.names.lookup x=some .local:=by first | exact .inl rfl | exact .inr rfl | assumption):wpAny M A (storeName X.env x u) Q E s:=
 store_ok2 I hN hi hx r (fun s' I' _=>h s' I') hf
theorem Inv.call' {s':Shared} {ch:List Addr} (I:Inv X pins σ H s) (ho:s'.os=s.os) (u:Un (frs X.stack) ch H H' s.heap s'.heap) (hok:HOk X.prog X.w H' s'.heap) (hg:AllBare s'.gens)
  (hch:∀ b ∈ ch,(b ∈ X.ex\/X.s_0.heap.objs.size<=b)/\b ≠ X.env.locals/\(∀ x c,X.env.cells.lookup x=some c->c ≠ b)/\∀ p ∈ X.pn++pins,p.1 ≠ b):Inv X pins σ H' s':=by
 obtain ⟨h',g',d',t',o'⟩:=s'
 have e:o'=s.os:=ho
 subst e
 exact I.call (g':=g') (t':=t') (d':=d') u hok hg hch
end
abbrev XK:=Value->Option Addr->Hp->Prop
abbrev St:=List (Option V)
abbrev VK:=V->Hp->Prop
abbrev TE:=St->Hp->VK->Prop
abbrev TT:=St->Hp->(Bool->Hp->Prop)->Prop
abbrev TA:=St->Hp->(List V->Hp->Prop)->Prop
structure Ends where
 nx:St->Hp->Prop
 rt:VK
 bk:St->Hp->Prop:=fun _ _=>False
 ct:St->Hp->Prop:=fun _ _=>False
abbrev TS:=Ends->St->Hp->Prop
def EP (X:Cx) (pins:List (Addr × Obj)) (σ:St) (Q:VK) (u:Value) (s':Shared):Prop:=∃ v H',Inv X pins σ H' s'/\RelV v u/\Q v H'
def TP (X:Cx) (pins:List (Addr × Obj)) (σ:St) (Q:Bool->Hp->Prop) (b:Bool) (s':Shared):Prop:=∃ H',Inv X pins σ H' s'/\Q b H'
def AP (X:Cx) (pins:List (Addr × Obj)) (σ:St) (Q:List V->Hp->Prop) (us:List Value) (s':Shared):Prop:=∃ vs H',Inv X pins σ H' s'/\Vals vs us/\Q vs H'
def SP (X:Cx) (pins:List (Addr × Obj)) (D:Ends) (f:Flow) (s':Shared):Prop:=
 match f with
 | .next=>∃ σ' H',Inv X pins σ' H' s'/\D.nx σ' H'
 | .brk=>∃ σ' H',Inv X pins σ' H' s'/\D.bk σ' H'
 | .cont=>∃ σ' H',Inv X pins σ' H' s'/\D.ct σ' H'
 | .ret u=>∃ v σ' H',Inv X pins σ' H' s'/\RelV v u/\D.rt v H'
def PE (X:Cx) (e:Expr) (t:TE):Prop:=
 ∀ (pins:List (Addr × Obj)) (s:Shared) (σ:St) (H:Hp) (Q:VK),Inv X pins σ H s->t σ H Q->wpAny (model X.prog X.w) X.A (eval e X.env) (EP X pins σ Q) X.xe s
def PT (X:Cx) (e:Expr) (t:TT):Prop:=
 ∀ (pins:List (Addr × Obj)) (s:Shared) (σ:St) (H:Hp) (Q:Bool->Hp->Prop),Inv X pins σ H s->t σ H Q->wpAny (model X.prog X.w) X.A (isTrue e X.env (eval e X.env)) (TP X pins σ Q) X.xe s
def PW (X:Cx) (e:Expr) (t:TT):Prop:=
 ∀ (whole:Sem Value) (pins:List (Addr × Obj)) (s:Shared) (σ:St) (H:Hp) (Q:Bool->Hp->Prop),Inv X pins σ H s->t σ H Q->wpAny (model X.prog X.w) X.A (isTrue e X.env whole) (TP X pins σ Q) X.xe s
theorem PW.pt {X:Cx} {e:Expr} {t:TT} (h:PW X e t):PT X e t:=h _
def PA (X:Cx) (es:List Expr) (t:TA):Prop:=
 ∀ (pos:Pos) (pins:List (Addr × Obj)) (s:Shared) (σ:St) (H:Hp) (Q:List V->Hp->Prop),Inv X pins σ H s->t σ H Q->wpAny (model X.prog X.w) X.A (spliced (backTo pos (starEach es X.env))) (AP X pins σ Q) X.xe s
def PS (X:Cx) (st:Stmt) (t:TS):Prop:=
 ∀ (pins:List (Addr × Obj)) (s:Shared) (σ:St) (H:Hp) (D:Ends),Inv X pins σ H s->t D σ H->wpAny (model X.prog X.w) X.A (exec st X.env) (SP X pins D) X.xe s
def PSs (X:Cx) (st:List Stmt) (t:TS):Prop:=
 ∀ (pins:List (Addr × Obj)) (s:Shared) (σ:St) (H:Hp) (D:Ends),Inv X pins σ H s->t D σ H->wpAny (model X.prog X.w) X.A (execs st X.env) (SP X pins D) X.xe s
theorem thn {α:Type} {t:Sem α} {Q Q':α->Shared->Prop} {M:Model} {A:Around} {E:Value->Shared->Prop} {s:Shared} (h:wpAny M A t Q E s) (hQ:∀ a s,Q a s->Q' a s):wpAny M A t Q' E s:=wpAny_mono h hQ fun _ _ x=>x
end L2
namespace L2
open PySem PySem.Spec PyProof.Rows
section
variable {X:Cx}
theorem bin {a b:Expr} {ta tb:TE} (ha:PE X a ta) (hb:PE X b tb) {pins:List (Addr × Obj)} {s:Shared} {σ:St} {H:Hp} {R:V->V->Hp->Prop} (I:Inv X pins σ H s) (h:ta σ H fun x H1=>tb σ H1 fun y H2=>R x y H2)
  {α:Type} {Q:α->Shared->Prop} {f:Value->Value->Sem α}
  (hf:∀ v u s2 x y H2,Inv X pins σ H2 s2->RelV x v->RelV y u->R x y H2->wpAny (model X.prog X.w) X.A (f v u) Q X.xe s2) :
  wpAny (model X.prog X.w) X.A (eval a X.env) (fun v s₁=>wpAny (model X.prog X.w) X.A (eval b X.env) (fun u s₂=>wpAny (model X.prog X.w) X.A (f v u) Q X.xe s₂) X.xe s₁) X.xe s:=by
 refine thn (ha pins s σ H _ I h) fun v s1 ⟨x,H1,I1,r1,q1⟩=>?_
 refine thn (hb pins s1 σ H1 _ I1 q1) fun u s2 ⟨y,H2,I2,r2,q2⟩=>?_
 exact hf v u s2 x y H2 I2 r1 r2 q2
def tVar (i:Nat):TE:=fun σ H Q=>∃ v,σ[i]?=some (some v)/\Q v H
def tC (v:V):TE:=fun _ H Q=>Q v H
theorem pe_var {i:Nat} {x:Str} {pos:Pos} (hN:X.N[i]?=some x) (hv:Vis X.env.scope x) (hd:(x==("__debug__":Str))=false:=by decide) (hcd:(x==("__classdict__":Str))=false:=by decide):PE X (.Name x pos) (tVar i):=by
 intro pins s σ H Q I h
 obtain ⟨v,e,h⟩:=h
 obtain ⟨m,hn,hl⟩:=I.loc
 obtain ⟨u,r,l⟩:=hl i x v hN e hv
 have fin:EP X pins σ Q u s:=⟨v,H,I,r,h⟩
 rcases l with ⟨hk,hm⟩ | ⟨hk,c,hc,hcell⟩
 ·exact wpAny_Name (wpAny_loadName_local I.ok.kind hk hn hm fin) hd
 ·rcases hk with hk | hk
  ·exact wpAny_Name (wpAny_loadName_cell I.ok.kind hk hc hcell fin) hd
  ·exact wpAny_Name (wpAny_loadName_free I.ok.kind hk hc hcell fin hcd) hd
theorem pe_int {i j pos}:PE X (.Constant (.int i) j pos) (tC (.int i)):=fun _ _ _ H _ I h=>wpAny_Constant_int ⟨.int i,H,I.tok _,⟨_,rfl⟩,h⟩
theorem pe_bl {b j pos}:PE X (.Constant (.bool b) j pos) (tC (.bl b)):=fun _ _ _ H _ I h=>Constant_bool ⟨.bl b,H,I,rfl,h⟩
theorem pe_non {j pos}:PE X (.Constant .none j pos) (tC .non):=fun _ _ _ H _ I h=>Constant_none ⟨.non,H,I,rfl,h⟩
def Gl (X:Cx) (x:Str):Prop:=X.env.kindOf x=some .globalImplicit
theorem ld_glob {E:Value->Shared->Prop} {pins:List (Addr × Obj)} {s:Shared} {σ:St} {H:Hp} {x:Str} {u:Value} {pos:Pos} {Q:Value->Shared->Prop} (I:Inv X pins σ H s) (hg:Gl X x) (hm:X.mg x=some u) (h:Q u s)
  (hd:(x==("__debug__":Str))=false:=by decide):wpAny (model X.prog X.w) X.A (eval (.Name x pos) X.env) Q E s:=
 Calls.Name_function_global I.ok.kind hg (Calls.loadGlobal_global (by rw [I.ok.glob];exact I.mod.glob.keeps I.bk) hm h) hd
theorem ld_blt {E:Value->Shared->Prop} {pins:List (Addr × Obj)} {s:Shared} {σ:St} {H:Hp} {x:Str} {u:Value} {pos:Pos} {Q:Value->Shared->Prop} (I:Inv X pins σ H s) (hg:Gl X x) (hm:X.mg x=none) (hv:bootBuiltins x=some u) (h:Q u s)
  (hn:x ≠ "__name__":=by decide) (hd:(x==("__debug__":Str))=false:=by decide):wpAny (model X.prog X.w) X.A (eval (.Name x pos) X.env) Q E s:=by
 obtain ⟨mb,h1,h2⟩:=I.mod.blt
 exact Calls.Name_function_global I.ok.kind hg (Calls.loadGlobal_builtin (by rw [I.ok.glob];exact I.mod.glob.keeps I.bk) hm (by rw [I.ok.blt];exact h1.keeps I.bk) ((h2 x hn).trans hv) h) hd
theorem pe_glob {x:Str} {v:V} {u:Value} {pos:Pos} (hg:Gl X x) (hm:X.mg x=some u) (r:RelV v u) (hd:(x==("__debug__":Str))=false:=by decide):PE X (.Name x pos) (tC v):=
 fun _ _ _ H _ I h=>ld_glob I hg hm ⟨v,H,I,r,h⟩ hd
variable {a b:Expr} {ta tb:TE} {pos:Pos}
def PC (X:Cx) (op:CmpOp) (a b:Expr) (t:TE):Prop:=
 ∀ (pins:List (Addr × Obj)) (s:Shared) (σ:St) (H:Hp) (Q:VK),Inv X pins σ H s->t σ H Q ->
  wpAny (model X.prog X.w) X.A (eval a X.env) (fun v s₁=>wpAny (model X.prog X.w) X.A (eval b X.env) (fun u s₂=>wpAny (model X.prog X.w) X.A (compareOp op v u) (EP X pins σ Q) X.xe s₂) X.xe s₁) X.xe s
theorem nobehind (b:Expr) {op:CmpOp} (h:op ≠ .In) (h2:op ≠ .NotIn):behindInMarks op b=false:=by
 have e1:(op==CmpOp.In)=false:=by cases op <;> first | rfl | exact absurd rfl h
 have e2:(op==CmpOp.NotIn)=false:=by cases op <;> first | rfl | exact absurd rfl h2
 cases b <;> simp [behindInMarks,e1,e2]
def tIsN (ta:TE):TE:=fun σ H Q=>ta σ H fun x H1=>Q (.bl (decide (x=.non))) H1
def tNotN (ta:TE):TE:=fun σ H Q=>ta σ H fun x H1=>Q (.bl (!decide (x=.non))) H1
theorem RelV.none_iff {x:V} {v:Value} (r:RelV x v):(v==Value.none)=decide (x=.non):=by
 cases x with
 | non=>cases r;rfl
 | bl _=>cases r;rfl
 | int _=>obtain ⟨t,rfl⟩:=r;rfl
 | str _=>obtain ⟨t,rfl⟩:=r;rfl
 | byt _=>obtain ⟨t,rfl⟩:=r;rfl
 | flt _=>obtain ⟨t,rfl⟩:=r;rfl
 | ref _=>cases r;rfl
 | ty _=>cases r;rfl
theorem pc_isN {j pos'} (ha:PE X a ta):PC X .Is a (.Constant .none j pos') (tIsN ta):=by
 intro pins s σ H Q I h
 refine thn (ha pins s σ H _ I h) fun v s1 ⟨x,H1,I1,r1,q1⟩=>?_
 exact Constant_none (is_none_gen ⟨.bl _,H1,I1,by rw [r1.none_iff];rfl,q1⟩)
theorem pc_notN {j pos'} (ha:PE X a ta):PC X .IsNot a (.Constant .none j pos') (tNotN ta):=by
 intro pins s σ H Q I h
 refine thn (ha pins s σ H _ I h) fun v s1 ⟨x,H1,I1,r1,q1⟩=>?_
 exact Constant_none (isnot_none_gen ⟨.bl _,H1,I1,by rw [r1.none_iff];rfl,q1⟩)
def tB (t:TE):TT:=fun σ H Q=>t σ H fun x H1=>∃ c,x=.bl c/\Q c H1
theorem pt_cmp {op:CmpOp} {t:TE} (h:PC X op a b t) (h1:behindInMarks op b=false:=by first | exact nobehind _ (by decide) (by decide) | rfl):PT X (.Compare a [op] [b] pos) (tB t):=by
 intro pins s σ H Q I hw
 refine wpAny_isTrue_Compare1 (thn (h pins s σ H _ I hw) fun v s1 h1=>thn h1 fun u s2 h2=>thn h2 fun c s3 ⟨x,H1,I1,r1,q1⟩=>?_) h1
 obtain ⟨d,rfl,q⟩:=q1
 cases r1
 exact wpAny_truthy_bool ⟨H1,I1,q⟩
theorem pt_val {e:Expr} {t:TE} (h:PE X e t) (he:∀ whole,isTrue e X.env whole=(do let v <-whole;standAt e.pos;holding [v] (truthy v)):=by intro _;rfl):PT X e (tB t):=by
 intro pins s σ H Q I hw
 refine isTrue_plain (thn (h pins s σ H _ I hw) fun v s1 ⟨x,H1,I1,r1,q1⟩=>?_) (he _)
 obtain ⟨d,rfl,q⟩:=q1
 cases r1
 exact wpAny_truthy_bool ⟨H1,I1,q⟩
variable {tA tB':TT} {rest:List Expr}
def tAnd (t u:TT):TT:=fun σ H Q=>t σ H fun c H1=>if c=true then u σ H1 Q else Q false H1
def tOr (t u:TT):TT:=fun σ H Q=>t σ H fun c H1=>if c=true then Q true H1 else u σ H1 Q
def tNot (t:TT):TT:=fun σ H Q=>t σ H fun c H1=>Q (!c) H1
theorem pw_and1 (ha:PT X a tA):PW X (.BoolOp .And [a] pos) tA:=by
 intro wh pins s σ H Q I h
 refine isTrue_and (thn (ha pins s σ H Q I h) fun c s1 e=>?_)
 cases c with
 | true=>exact isTrue_and_nil e
 | false=>exact e
theorem pw_or1 (ha:PT X a tA):PW X (.BoolOp .Or [a] pos) tA:=by
 intro wh pins s σ H Q I h
 refine isTrue_or (thn (ha pins s σ H Q I h) fun c s1 e=>?_)
 cases c with
 | false=>exact isTrue_or_nil e
 | true=>exact e
theorem pw_and (ha:PT X a tA) (hb:PW X (.BoolOp .And (b::rest) pos) tB'):PW X (.BoolOp .And (a::b::rest) pos) (tAnd tA tB'):=by
 intro wh pins s σ H Q I h
 refine isTrue_and (thn (ha pins s σ H _ I h) fun c s1 ⟨H1,I1,q1⟩=>?_)
 cases c with
 | true=>exact hb wh pins s1 σ H1 Q I1 q1
 | false=>exact ⟨H1,I1,q1⟩
theorem pw_or (ha:PT X a tA) (hb:PW X (.BoolOp .Or (b::rest) pos) tB'):PW X (.BoolOp .Or (a::b::rest) pos) (tOr tA tB'):=by
 intro wh pins s σ H Q I h
 refine isTrue_or (thn (ha pins s σ H _ I h) fun c s1 ⟨H1,I1,q1⟩=>?_)
 cases c with
 | true=>exact ⟨H1,I1,q1⟩
 | false=>exact hb wh pins s1 σ H1 Q I1 q1
theorem pt_not (ha:PT X a tA):PT X (.UnaryOp .Not a pos) (tNot tA):=by
 intro pins s σ H Q I h
 exact isTrue_not (ha pins s σ H (fun c H1=>Q (!c) H1) I h)
def tAndV (ta tb:TE):TE:=fun σ H Q=>ta σ H fun x H1=>∃ c,x=.bl c/\if c=true then tb σ H1 Q else Q (.bl false) H1
def tOrV (ta tb:TE):TE:=fun σ H Q=>ta σ H fun x H1=>∃ c,x=.bl c/\if c=true then Q (.bl true) H1 else tb σ H1 Q
def tNotV (ta:TE):TE:=fun σ H Q=>ta σ H fun x H1=>∃ c,x=.bl c/\Q (.bl (!c)) H1
theorem pe_one {op} {t:TE} (h:PE X a t):PE X (.BoolOp op [a] pos) t:=fun pins s σ H Q I hw=>BoolOp_one (h pins s σ H Q I hw)
theorem pe_and (ha:PE X a ta) (hb:PE X (.BoolOp .And (b::rest) pos) tb):PE X (.BoolOp .And (a::b::rest) pos) (tAndV ta tb):=by
 intro pins s σ H Q I h
 refine BoolOp_and (thn (ha pins s σ H _ I h) fun v s1 ⟨x,H1,I1,r1,q1⟩=>?_)
 obtain ⟨c,rfl,q1⟩:=q1
 cases r1
 refine wpAny_truthy_bool ?_
 cases c with
 | true=>exact hb pins s1 σ H1 Q I1 q1
 | false=>exact ⟨.bl false,H1,I1,rfl,q1⟩
theorem pe_or (ha:PE X a ta) (hb:PE X (.BoolOp .Or (b::rest) pos) tb):PE X (.BoolOp .Or (a::b::rest) pos) (tOrV ta tb):=by
 intro pins s σ H Q I h
 refine BoolOp_or (thn (ha pins s σ H _ I h) fun v s1 ⟨x,H1,I1,r1,q1⟩=>?_)
 obtain ⟨c,rfl,q1⟩:=q1
 cases r1
 refine wpAny_truthy_bool ?_
 cases c with
 | false=>exact hb pins s1 σ H1 Q I1 q1
 | true=>exact ⟨.bl true,H1,I1,rfl,q1⟩
def tIf (t:TT) (ta tb:TE):TE:=fun σ H Q=>t σ H fun c H1=>if c=true then ta σ H1 Q else tb σ H1 Q
theorem pe_ifExp {c:Expr} (hc:PT X c tA) (ha:PE X a ta) (hb:PE X b tb):PE X (.IfExp c a b pos) (tIf tA ta tb):=by
 intro pins s σ H Q I h
 refine wpAny_IfExp (thn (hc pins s σ H _ I h) fun d s1 ⟨H1,I1,q1⟩=>?_)
 cases d with
 | true=>exact ha pins s1 σ H1 Q I1 q1
 | false=>exact hb pins s1 σ H1 Q I1 q1
end
end L2
namespace L2
open PySem PySem.Spec PyProof.Rows
def SqL (K:PySem.W.Frag) (H:Hp) (a:Addr) (xs:List V):Prop:=
 Rd H a (.lst xs) ∨
  ∃ (o:Obj) (its:Array Value) (n:Nat),K.lookup a=some o/\o.cls=.type "list"/\o.dict=none/\o.data=.seq its n/\its.size<=sizeLine/\Vals xs its.toList
def SqT (K:PySem.W.Frag) (H:Hp) (a:Addr) (xs:List V):Prop:=
 Rd H a (.tup xs) ∨
  ∃ (o:Obj) (its:Array Value) (n:Nat),K.lookup a=some o/\o.cls=.type "tuple"/\o.data=.seq its n/\its.size<=sizeLine/\Vals xs its.toList
def absV:Value->Option V
 | .none=>some .non
 | .bool b=>some (.bl b)
 | .int i _=>some (.int i)
 | .str x _=>some (.str x)
 | .bytes b _=>some (.byt b)
 | .float b _=>some (.flt b)
 | .ref a=>some (.ref a)
 | .type n=>some (.ty n)
 | _=>none
theorem RelV.abs {x:V} {u:Value} (r:RelV x u):absV u=some x:=by
 cases x with
 | non=>cases r;rfl
 | bl _=>cases r;rfl
 | int _=>obtain ⟨t,rfl⟩:=r;rfl
 | str _=>obtain ⟨t,rfl⟩:=r;rfl
 | byt _=>obtain ⟨t,rfl⟩:=r;rfl
 | flt _=>obtain ⟨t,rfl⟩:=r;rfl
 | ref _=>cases r;rfl
 | ty _=>cases r;rfl
theorem RelV.inj {x y:V} {u:Value} (r:RelV x u) (q:RelV y u):x=y:=Option.some.inj (r.abs.symm.trans q.abs)
theorem Vals.inj:∀ {xs ys:List V} {us:List Value},Vals xs us->Vals ys us->xs=ys
 | _,_,_,.nil,.nil=>rfl
 | _,_,_,.cons r t,.cons r' t'=>by rw [r.inj r',Vals.inj t t']
section
variable {X:Cx} {pins:List (Addr × Obj)} {σ:St} {H:Hp} {s:Shared} {a:Addr} {xs ys:List V}
theorem SqL.of {K:PySem.W.Frag} (h:H a=some (.lst xs)):SqL K H a xs:=.inl (.inl h)
theorem SqT.of {K:PySem.W.Frag} (h:H a=some (.tup xs)):SqT K H a xs:=.inl (.inl h)
theorem Inv.list (I:Inv X pins σ H s) (h:SqL X.K H a xs):∃ its:List Value,Vals xs its/\PlainL s.heap a its.toArray/\xs.length<=sizeLine:=by
 rcases h with h | ⟨o,its,n,hk,hc,hd,hs,hz,r⟩
 ·obtain ⟨z,its,n,r,e⟩:=h.ok I.hok
  exact ⟨its,r,⟨_,n,e,rfl,rfl,rfl⟩,z⟩
 ·refine ⟨its.toList,r,⟨o,n,I.kIn a o hk,hc,hd,by simpa using hs⟩,?_⟩
  have e:=r.length
  simp only [Array.length_toList] at e
  omega
theorem Inv.tuple (I:Inv X pins σ H s) (h:SqT X.K H a xs):∃ its:List Value,Vals xs its/\IsTup s.heap a its.toArray/\xs.length<=sizeLine:=by
 rcases h with h | ⟨o,its,n,hk,hc,hs,hz,r⟩
 ·obtain ⟨z,its,r,p⟩:=h.ok I.hok
  exact ⟨its,r,p,z⟩
 ·refine ⟨its.toList,r,⟨o,I.kIn a o hk,hc,n,by simpa using hs⟩,?_⟩
  have e:=r.length
  simp only [Array.length_toList] at e
  omega
theorem Inv.list_inj (I:Inv X pins σ H s) (h:SqL X.K H a xs) (h':SqL X.K H a ys):xs=ys:=by
 obtain ⟨its,r,⟨o,n,e,_,_,d⟩,_⟩:=I.list h
 obtain ⟨its',r',⟨o',n',e',_,_,d'⟩,_⟩:=I.list h'
 rw [e] at e';cases e'
 rw [d] at d'
 injection d' with d1 _
 have:its=its':=by simpa using congrArg Array.toList d1
 subst this
 exact r.inj r'
theorem Inv.tuple_inj (I:Inv X pins σ H s) (h:SqT X.K H a xs) (h':SqT X.K H a ys):xs=ys:=by
 obtain ⟨its,r,⟨o,e,_,n,d⟩,_⟩:=I.tuple h
 obtain ⟨its',r',⟨o',e',_,n',d'⟩,_⟩:=I.tuple h'
 rw [e] at e';cases e'
 rw [d] at d'
 injection d' with d1 _
 have:its=its':=by simpa using congrArg Array.toList d1
 subst this
 exact r.inj r'
end
abbrev Cx.wish (X:Cx) (E:Value->Shared->Prop):Cx:={ X with xe:=E }
abbrev Cx.nox (X:Cx):Cx:=X.wish fun _ _=>False
theorem Cx.Ok.wish {X:Cx} (ok:X.Ok) (E:Value->Shared->Prop):(X.wish E).Ok:=
 ⟨ok.mod,ok.kind,ok.glob,ok.blt,ok.above,ok.inj,ok.has,ok.cab,ok.hd,ok.frames,ok.stk,ok.exf,ok.bs,ok.bsz,ok.noex,ok.exfs,ok.funs,ok.frf⟩
theorem Cx.Ok.unwish {X:Cx} {E:Value->Shared->Prop} (ok:(X.wish E).Ok):X.Ok:=
 ⟨ok.mod,ok.kind,ok.glob,ok.blt,ok.above,ok.inj,ok.has,ok.cab,ok.hd,ok.frames,ok.stk,ok.exf,ok.bs,ok.bsz,ok.noex,ok.exfs,ok.funs,ok.frf⟩
section
variable {X:Cx} {pins:List (Addr × Obj)} {σ:St} {H:Hp} {s:Shared} {E:Value->Shared->Prop}
theorem Inv.wish (I:Inv X pins σ H s) (E:Value->Shared->Prop):Inv (X.wish E) pins σ H s:=⟨I.ok.wish E,I.os,I.bare,I.base,I.loc,I.cell,I.free,I.freeC,I.pin,I.hok,I.len⟩
theorem Inv.unwish (I:Inv (X.wish E) pins σ H s):Inv X pins σ H s:=⟨I.ok.unwish,I.os,I.bare,I.base,I.loc,I.cell,I.free,I.freeC,I.pin,I.hok,I.len⟩
theorem SP.unwish {D:Ends} {f:Flow} {s':Shared} (h:SP (X.wish E) pins D f s'):SP X pins D f s':=by
 cases f with
 | next=>obtain ⟨σ',H',I,q⟩:=h;exact ⟨σ',H',I.unwish,q⟩
 | brk=>obtain ⟨σ',H',I,q⟩:=h;exact ⟨σ',H',I.unwish,q⟩
 | cont=>obtain ⟨σ',H',I,q⟩:=h;exact ⟨σ',H',I.unwish,q⟩
 | ret u=>obtain ⟨v,σ',H',I,r,q⟩:=h;exact ⟨v,σ',H',I.unwish,r,q⟩
theorem PSs.nox {st:List Stmt} {t:TS} (h:PSs X.nox st t):PSs X st t:=fun pins s σ H D I hw=>
 wpAny_mono (h pins s σ H D (I.wish _) hw) (fun _ _ q=>q.unwish) fun _ _ z=>False.elim z
end
section
variable {X:Cx} {st:Stmt} {rest:List Stmt} {t u:TS} {e:Expr} {te:TE} {pos:Pos}
def tNext:TS:=fun D σ H=>D.nx σ H
def tSeq (t u:TS):TS:=fun D σ H=>t { D with nx:=u D } σ H
theorem pss_nil:PSs X [] tNext:=fun _ _ σ H _ I h=>wpAny_execs_nil ⟨σ,H,I,h⟩
theorem pss_cons (h1:PS X st t) (h2:PSs X rest u):PSs X (st::rest) (tSeq t u):=by
 intro pins s σ H D I h
 refine wpAny_execs_cons (thn (h1 pins s σ H { D with nx:=u D } I h) fun f s1 q=>?_)
 cases f with
 | next=>
  obtain ⟨σ',H',I',q⟩:=q
  exact h2 pins s1 σ' H' D I' q
 | ret v=>exact q
 | brk=>exact q
 | cont=>exact q
theorem pss_one (h1:PS X st t):PSs X [st] t:=by
 intro pins s σ H D I h
 refine wpAny_execs_cons (thn (h1 pins s σ H D I h) fun f s1 q=>?_)
 cases f with
 | next=>exact wpAny_execs_nil q
 | ret v=>exact q
 | brk=>exact q
 | cont=>exact q
theorem Inv.quiet {pins:List (Addr × Obj)} {σ:St} {H:Hp} {s:Shared} (I:Inv X pins σ H s):interactive X.env=false:=by simp [interactive,I.ok.kind]
def tDrop (te:TE):TS:=fun D σ H=>te σ H fun _ H1=>D.nx σ H1
theorem ps_expr (he:PE X e te) (hs:swapsWith e none pos.line X.env=pure false:=by rfl):PS X (.Expr e pos) (tDrop te):=by
 intro pins s σ H D I h
 exact wpAny_Expr_any (thn (he pins s σ H _ I h) fun v s1 ⟨x,H1,I1,r1,q1⟩=>⟨σ,H1,I1,q1⟩) I.quiet hs
def tRet (te:TE):TS:=fun D σ H=>te σ H D.rt
theorem ps_ret (he:PE X e te):PS X (.Return (some e) pos) (tRet te):=by
 intro pins s σ H D I h
 exact wpAny_Return_some (thn (he pins s σ H _ I h) fun v s1 ⟨x,H1,I1,r1,q1⟩=>⟨x,σ,H1,I1,r1,q1⟩)
def tIfS (c:TT) (t u:TS):TS:=fun D σ H=>c σ H fun b H1=>if b=true then t D σ H1 else u D σ H1
theorem ps_if {c:Expr} {a b:List Stmt} {tc:TT} (hc:PT X c tc) (ha:PSs X a t) (hb:PSs X b u):PS X (.If c a b pos) (tIfS tc t u):=by
 intro pins s σ H D I h
 refine wpAny_If (thn (hc pins s σ H _ I h) fun d s1 ⟨H1,I1,q1⟩=>?_)
 cases d with
 | true=>exact ha pins s1 σ H1 D I1 q1
 | false=>exact hb pins s1 σ H1 D I1 q1
def tNever:TS:=fun _ _ _=>False
theorem pss_never {sts:List Stmt}:PSs X sts tNever:=fun _ _ _ _ _ _ h=>h.elim
end
abbrev TG:=V->St->Hp->(St->Hp->Prop)->Prop
abbrev TGs:=List V->St->Hp->(St->Hp->Prop)->Prop
def PG (X:Cx) (target:Expr) (t:TG):Prop:=
 ∀ (pins:List (Addr × Obj)) (s:Shared) (σ:St) (H:Hp) (v:V) (u:Value) (Q:St->Hp->Prop),Inv X pins σ H s->RelV v u->t v σ H Q ->
  wpAny (model X.prog X.w) X.A (assign target X.env u) (fun _ s'=>∃ σ' H',Inv X pins σ' H' s'/\Q σ' H') X.xe s
def PGs (X:Cx) (ts:List Expr) (t:TGs):Prop:=
 ∀ (pins:List (Addr × Obj)) (s:Shared) (σ:St) (H:Hp) (vs:List V) (us:List Value) (Q:St->Hp->Prop),Inv X pins σ H s->Vals vs us->t vs σ H Q ->
  wpAny (model X.prog X.w) X.A (assignInOrder ((assignEach ts X.env).map (·.2)) us) (fun _ s'=>∃ σ' H',Inv X pins σ' H' s'/\Q σ' H') X.xe s
abbrev TSet:=V->V->V->Hp->(Hp->Prop)->Prop
def PSet (X:Cx) (t:TSet):Prop:=
 ∀ (pins:List (Addr × Obj)) (s:Shared) (σ:St) (H:Hp) (o i v:V) (ov iv u:Value) (Q:Hp->Prop),Inv X pins σ H s->RelV o ov->RelV i iv->RelV v u->t o i v H Q ->
  wpAny (model X.prog X.w) X.A (setItem ov iv u) (fun _ s'=>∃ H',Inv X pins σ H' s'/\Q H') X.xe s
section
variable {X:Cx} {pos:Pos}
def gName (i:Nat):TG:=fun v σ H Q=>Q (σ.set i (some v)) H
theorem pg_name {i:Nat} {x:Str} (hN:X.N.Nodup) (hi:X.N[i]?=some x) (hx:Loc X.env.scope x) (hf:X.fn x=true\/X.env.scope.names.lookup x=some .local:=by first | exact .inl rfl | exact .inr rfl | assumption):PG X (.Name x pos) (gName i):=by
 intro pins s σ H v u Q I r h
 exact wpAny_assign_Name (store_ok I hN hi hx r (fun s' I'=>⟨_,H,I',h⟩) hf)
def gNil:TGs:=fun vs σ H Q=>vs=[]/\Q σ H
def gCons (t:TG) (u:TGs):TGs:=fun vs σ H Q=>∃ v r,vs=v::r/\t v σ H fun σ' H'=>u r σ' H' Q
theorem pgs_nil:PGs X [] gNil:=by
 intro pins s σ H vs us Q I r h
 obtain ⟨e,h⟩:=h
 subst e
 cases r
 exact assignInOrder_nil ⟨σ,H,I,h⟩
theorem pgs_cons {e:Expr} {es:List Expr} {t:TG} {u:TGs} (h1:PG X e t) (h2:PGs X es u)
  (hs:(assignEach (e::es) X.env).map (·.2)=assign e X.env::(assignEach es X.env).map (·.2):=by rfl):PGs X (e::es) (gCons t u):=by
 intro pins s σ H vs us Q I r h
 obtain ⟨v,vr,e1,h⟩:=h
 subst e1
 cases r with
 | cons r rr=>
  rw [hs]
  refine assignInOrder_cons (thn (h1 pins s σ H _ _ _ I r h) fun _ s1 ⟨σ1,H1,I1,q1⟩=>?_)
  exact h2 pins s1 σ1 H1 _ _ Q I1 rr q1
def gTup (K:PySem.W.Frag) (n:Nat) (t:TGs):TG:=fun v σ H Q=>∃ a xs,v=.ref a/\SqT K H a xs/\xs.length=n/\t xs σ H Q
theorem pg_tup {es:List Expr} {k:Nat} {t:TGs} {n:Nat} (hc:X.calm=true) (h:PGs X es t)
  (hn:(assignEach es X.env).length=n:=by rfl) (hst:(assignEach es X.env).findIdx? (·.1)=none:=by rfl):PG X (.Tuple es k pos) (gTup X.K n t):=by
 intro pins s σ H v u Q I r hw
 obtain ⟨a,xs,e1,hq,hl,hw⟩:=hw
 subst e1
 cases r
 obtain ⟨its,rv,ht,hz⟩:=I.tuple hq
 refine assign_Tuple_tuple (I.ok.hd hc) ht (by simp [hn,<-hl,rv.length]) hst fun h' hx=>?_
 have I1:Inv X pins σ H { s with heap:=h' }:=I.kept (t':=s.toks) fun b o e=>hx b o (Nat.ne_of_lt (Heap.lt_size e)) e
 exact h pins _ σ H xs _ Q I1 (by simpa using rv) hw
def gSub (to ti:TE) (t:TSet):TG:=fun v σ H Q=>to σ H fun o H1=>ti σ H1 fun i H2=>t o i v H2 fun H3=>Q σ H3
theorem pg_sub {o i:Expr} {to ti:TE} {t:TSet} (ho:PE X o to) (hi:PE X i ti) (hs:PSet X t)
  (ha:∀ v,assign (.Subscript o i pos) X.env v=(do
   let ov <-holding [v] (eval o X.env)
   let iv <-holding [v,ov] (eval i X.env)
   standAt pos
   holding [v,ov,iv] (setItem ov iv v)
   release [v,ov,iv] []):=by intro _;rfl):PG X (.Subscript o i pos) (gSub to ti t):=by
 intro pins s σ H v u Q I r h
 rw [ha]
 refine wpAny_bind (wpAny_holding (thn (ho pins s σ H _ I h) fun ov s1 ⟨x,H1,I1,r1,q1⟩=>?_))
 refine wpAny_bind (wpAny_holding (thn (hi pins s1 σ H1 _ I1 q1) fun iv s2 ⟨y,H2,I2,r2,q2⟩=>?_))
 refine wpAny_bind (wpAny_standAt (wpAny_bind (wpAny_holding (thn (hs pins s2 σ H2 x y v ov iv u _ I2 r1 r2 r q2) fun _ s3 ⟨H3,I3,q3⟩=>?_))))
 exact wpAny_release ⟨σ,H3,I3,q3⟩
def tAsg (te:TE) (g:TG):TS:=fun D σ H=>te σ H fun x H1=>g x σ H1 D.nx
theorem ps_asg {tg e:Expr} {te:TE} {g:TG} (he:PE X e te) (hg:PG X tg g) (hs:swapsWithSole [tg] e pos.line X.env=pure false:=by rfl) (hw:swappedStores [tg] e X.env=pure none:=by rfl)
  (h1:(assignEach [tg] X.env).map (·.2)=[assign tg X.env]:=by rfl):PS X (.Assign [tg] e pos) (tAsg te g):=by
 intro pins s σ H D I h
 refine wpAny_Assign_stores (thn (he pins s σ H _ I h) fun v s1 ⟨x,H1,I1,r1,q1⟩=>?_) hs hw
 rw [h1]
 exact thn (hg pins s1 σ H1 x v _ I1 r1 q1) fun _ s2 q=>q
theorem ps_set {i:Nat} {x:Str} {e:Expr} {te:TE} {pos':Pos} (hN:X.N.Nodup) (hi:X.N[i]?=some x) (hx:Loc X.env.scope x) (he:PE X e te) (hs:swapsWith e (some (.Name x pos')) pos.line X.env=pure false:=by rfl) (hf:X.fn x=true\/X.env.scope.names.lookup x=some .local:=by first | exact .inl rfl | exact .inr rfl | assumption) :
  PS X (.Assign [.Name x pos'] e pos) (tAsg te (gName i)):=by
 intro pins s σ H D I h
 refine wpAny_Assign_Name (thn (he pins s σ H _ I h) fun v s1 ⟨y,H1,I1,r1,q1⟩=>?_) hs
 exact store_ok I1 hN hi hx r1 (fun s2 I2=>⟨_,H1,I2,q1⟩) hf
end
section
variable {X:Cx} {pos:Pos}
def tWhile (c:TT) (tb:TS):TS:=fun D σ H=>∃ W:Nat->St->Hp->Prop,(∃ m,W m σ H)/\∀ m σ H,W m σ H ->
 c σ H fun b H1=>if b=true then ∃ N:St->Hp->Prop,(∀ σ' H',N σ' H'->∃ m',m'<m/\W m' σ' H')/\tb { D with nx:=N,ct:=N,bk:=D.nx } σ H1 else D.nx σ H1
theorem ps_while {c:Expr} {body:List Stmt} {tc:TT} {tb:TS} (hp:PassesOwn (model X.prog X.w) X.A X.env X.xe) (hc:PT X c tc) (hb:PSs X body tb):PS X (.While c body [] pos) (tWhile tc tb):=by
 intro pins s σ H D I h
 obtain ⟨W,⟨m0,w0⟩,turn⟩:=h
 refine wpAny_While (codeAny_whileLoop (fun n s'=>∃ σ' H',Inv X pins σ' H' s'/\W n σ' H') ?_ m0 ⟨σ,H,I,w0⟩)
 rintro n s1 ⟨σ1,H1,I1,w1⟩
 refine wpAny_passesOwn hp (thn (hc pins s1 σ1 H1 _ I1 (turn n σ1 H1 w1)) fun b s2 ⟨H2,I2,q2⟩=>?_)
 cases b with
 | true=>
  obtain ⟨N,hN,q2⟩:=q2
  rw [if_pos rfl]
  refine wpAny_passesOwn hp (thn (hb pins s2 σ1 H2 _ I2 q2) fun f s3 q3=>?_)
  cases f with
  | next=>
   obtain ⟨σ3,H3,I3,n3⟩:=q3
   obtain ⟨m',hm,w3⟩:=hN σ3 H3 n3
   exact ⟨m',hm,σ3,H3,I3,w3⟩
  | cont=>
   obtain ⟨σ3,H3,I3,n3⟩:=q3
   obtain ⟨m',hm,w3⟩:=hN σ3 H3 n3
   exact ⟨m',hm,σ3,H3,I3,w3⟩
  | brk=>exact q3
  | ret v=>exact q3
 | false=>
  rw [if_neg Bool.false_ne_true]
  exact wpAny_execs_nil ⟨σ1,H2,I2,q2⟩
end
structure It where
 go:Nat->Hp->Prop
 yld:Nat->Hp->V->Hp->Prop
 stop:Nat->Hp->Prop
def FpOk (X:Cx) (pins:List (Addr × Obj)) (H:Hp) (b:Addr):Prop:=
 H b=none/\b ≠ X.env.locals/\b ∉ X.fs/\(b ∈ X.ex\/X.s_0.heap.objs.size<=b)/\(∀ x c,X.env.cells.lookup x=some c->c ≠ b)/\∀ p ∈ X.pn++pins,p.1 ≠ b
theorem Inv.fpOk {X:Cx} {pins:List (Addr × Obj)} {σ:St} {H H':Hp} {s:Shared} {b:Addr} (I:Inv X pins σ H s) (hb:s.heap.objs.size<=b) (hn:H' b=none):FpOk X pins H' b:=by
 refine ⟨hn,Nat.ne_of_gt (Nat.lt_of_lt_of_le I.lt hb),I.nofs hb,.inr (Nat.le_trans I.sz hb),fun x c e z=>?_,fun p hp z=>?_⟩
 ·obtain ⟨v,q⟩:=I.cell x c e
  exact absurd (Nat.lt_of_lt_of_le q.lt (by rw [z];exact hb)) (Nat.lt_irrefl _)
 ·exact absurd (Nat.lt_of_lt_of_le (Heap.lt_size (I.pin p hp).1) (by rw [z];exact hb)) (Nat.lt_irrefl _)
structure Turn (P:Program) (w:World) (K:PySem.W.Frag) (tg:Expr) (J:It) (fp:List Addr) (it:Addr) (tn:Nat->Heap->Prop):Prop where
 mem:it ∈ fp
 obj:∀ i h,tn i h->∀ b ∈ fp,∃ o,h.get? b=some o/\∀ v,o.data ≠ .cell v
 keep:∀ i h h',tn i h->(∀ b ∈ fp,∀ o,h.get? b=some o->h'.get? b=some o)->tn i h'
 item:∀ (X:Cx),X.prog=P->X.w=w->X.K=K->X.calm=true->∀ (i:Nat) (pins:List (Addr × Obj)) (s:Shared) (σ:St) (H:Hp) (E:Value->Shared->Prop),Inv X pins σ H s->(∀ b ∈ fp,FpOk X pins H b)->tn i s.heap->J.go i H ->
  wpAny (model P w) X.A (pyNext (.ref it)) (fun r s1=>∃ u,r=some u/\
   wpAny (model P w) X.A (letOwnedTupleGo tg (.ref it) u) (fun _ s2=>∃ x H',Inv X pins σ H' s2/\RelV x u/\J.yld i H x H'/\tn (i+1) s2.heap/\∀ b ∈ fp,H' b=none) E s1) E s
 done:∀ (X:Cx),X.prog=P->X.w=w->X.K=K->X.calm=true->∀ (i:Nat) (pins:List (Addr × Obj)) (s:Shared) (σ:St) (H:Hp) (E:Value->Shared->Prop),Inv X pins σ H s->(∀ b ∈ fp,FpOk X pins H b)->tn i s.heap->J.stop i H ->
  wpAny (model P w) X.A (pyNext (.ref it)) (fun r s1=>r=none/\Inv X pins σ H s1) E s
 self:∀ (A:Around) (i:Nat) (s:Shared) (Q:Value->Shared->Prop) (E:Value->Shared->Prop),tn i s.heap->Q (.ref it) s->wpAny (model P w) A (pyIter (.ref it)) Q E s
abbrev TI:=St->Hp->(It->Hp->Prop)->Prop
def PIE (X:Cx) (pins:List (Addr × Obj)) (σ:St) (tg:Expr) (R:It->Hp->Prop) (itv:Value) (s2:Shared):Prop:=
 ∃ (it:Addr) (fp:List Addr) (tn:Nat->Heap->Prop) (J:It) (H':Hp),itv=.ref it/\Inv X pins σ H' s2/\Turn X.prog X.w X.K tg J fp it tn/\tn 0 s2.heap/\(∀ b ∈ fp,FpOk X pins H' b)/\R J H'
def PI (X:Cx) (tg iter:Expr) (wi:TI):Prop:=
 ∀ (pins:List (Addr × Obj)) (s:Shared) (σ:St) (H:Hp) (R:It->Hp->Prop),Inv X pins σ H s->wi σ H R ->
  wpAny (model X.prog X.w) X.A (eval iter X.env) (fun v s1=>wpAny (model X.prog X.w) X.A (pyIter v) (PIE X pins σ tg R) X.xe s1) X.xe s
theorem go_of {M:Model} {A:Around} {E:Value->Shared->Prop} {s:Shared} {tg:Expr} {it:Addr} {u:Value} {o:Obj} {n:String} {vs:Array Value} {Q:Unit->Shared->Prop} (ho:s.heap.get? it=some o) (hc:o.cls=.type n) (hd:o.data=.fields vs)
  (hn:["enumerate","zip","dict_itemiterator","dict_reverseitemiterator","odict_iterator","itertools.zip_longest","itertools.pairwise"].contains n=false) (hQ:Q () s):wpAny M A (letOwnedTupleGo tg (.ref it) u) Q E s:=by
 unfold letOwnedTupleGo
 cases tg <;> first
  | exact wpAny_pure hQ
  | (cases u <;> first
    | exact wpAny_pure hQ
    | (refine wpAny_bind (wpAny_load ho ?_)
       rw [hc,hd]
       show wpAny M A (if (["enumerate","zip","dict_itemiterator","dict_reverseitemiterator","odict_iterator","itertools.zip_longest","itertools.pairwise"].contains n && vs[0]?==some (rawInt _))=true then _ else _) Q E s
       rw [if_neg (by intro h;rw [hn,Bool.false_and] at h;cases h)]
       exact wpAny_pure hQ))
def Itl (K:PySem.W.Frag) (a:Addr):It:=
 ⟨fun i H=>∃ xs x,SqL K H a xs/\xs[i]?=some x,fun i H x H'=>H'=H/\∀ xs,SqL K H a xs->xs[i]?=some x,fun i H=>∃ xs,SqL K H a xs/\xs.length<=i⟩
def Itt (K:PySem.W.Frag) (a:Addr):It:=
 ⟨fun i H=>∃ xs x,SqT K H a xs/\xs[i]?=some x,fun i H x H'=>H'=H/\∀ xs,SqT K H a xs->xs[i]?=some x,fun i H=>∃ xs,SqT K H a xs/\xs.length<=i⟩
def Itr (lo:Int) (n:Nat):It:=⟨fun i _=>i<n,fun i H x H'=>H'=H/\x=.int (lo+i),fun i _=>n<=i⟩
theorem turn_list {P:Program} {w:World} {K:PySem.W.Frag} {tg:Expr} (a it:Addr):Turn P w K tg (Itl K a) [it] it (fun i h=>h.IsListIter it a i) where
 mem:=by simp
 obj:=fun i h st b hb=>by
  have e:b=it:=by simpa using hb
  subst e
  obtain ⟨o,e,c,d⟩:=st
  exact ⟨o,e,fun v z=>by rw [d] at z;cases z⟩
 keep:=fun i h h' st k=>st.at fun o e=>k it (by simp) o e
 item:=by
  intro X hP hw hK hc i pins s σ H E I hf st hg
  subst hP hw hK
  obtain ⟨xs,x,hq,hx⟩:=hg
  obtain ⟨its,rv,p,hz⟩:=I.list hq
  obtain ⟨u,hu,ru⟩:=rv.get hx
  obtain ⟨f0,f1,f2,f3,f4,f5⟩:=hf it (by simp)
  refine wpAny_pyNext_list_item st p.isList (x:=u) (by simpa using hu) fun h' st' sb=>?_
  have I1:Inv X pins σ H { s with heap:=h' }:=I.turned (t':=s.toks) (fun b o hb e=>(sb.2 b hb).trans e) f0 f1 f3 f4 f5
  obtain ⟨o,e,c,d⟩:=id st'
  exact ⟨u,rfl,go_of (s:={ s with heap:=h' }) e c d (by decide) ⟨x,H,I1,ru,⟨rfl,fun ys hy=>by rw [I.list_inj hy hq];exact hx⟩,st',fun b hb=>(hf b hb).1⟩⟩
 done:=by
  intro X hP hw hK hc i pins s σ H E I hf st hg
  subst hP hw hK
  obtain ⟨xs,hq,hx⟩:=hg
  obtain ⟨its,rv,p,hz⟩:=I.list hq
  obtain ⟨f0,f1,f2,f3,f4,f5⟩:=hf it (by simp)
  have hl:=rv.length
  exact wpAny_pyNext_list_end (I.ok.hd hc) st p.isList (by simp;omega) fun h' eb=>⟨rfl,I.turned (t':=s.toks) (fun b o hb e=>eb b o hb e) f0 f1 f3 f4 f5⟩
 self:=fun _ _ _ _ _ st h=>wpAny_pyIter_listiter st h
theorem turn_tuple {P:Program} {w:World} {K:PySem.W.Frag} {tg:Expr} (a it:Addr):Turn P w K tg (Itt K a) [it] it (fun i h=>h.IsTupleIter it a i) where
 mem:=by simp
 obj:=fun i h st b hb=>by
  have e:b=it:=by simpa using hb
  subst e
  obtain ⟨o,e,c,d⟩:=st
  exact ⟨o,e,fun v z=>by rw [d] at z;cases z⟩
 keep:=fun i h h' st k=>st.at fun o e=>k it (by simp) o e
 item:=by
  intro X hP hw hK hc i pins s σ H E I hf st hg
  subst hP hw hK
  obtain ⟨xs,x,hq,hx⟩:=hg
  obtain ⟨its,rv,p,hz⟩:=I.tuple hq
  obtain ⟨u,hu,ru⟩:=rv.get hx
  obtain ⟨f0,f1,f2,f3,f4,f5⟩:=hf it (by simp)
  refine wpAny_pyNext_tuple_item st (show s.heap.IsTuple a its.toArray from p) (x:=u) (by simpa using hu) fun h' st' sb=>?_
  have I1:Inv X pins σ H { s with heap:=h' }:=I.turned (t':=s.toks) (fun b o hb e=>(sb.2 b hb).trans e) f0 f1 f3 f4 f5
  obtain ⟨o,e,c,d⟩:=id st'
  exact ⟨u,rfl,go_of (s:={ s with heap:=h' }) e c d (by decide) ⟨x,H,I1,ru,⟨rfl,fun ys hy=>by rw [I.tuple_inj hy hq];exact hx⟩,st',fun b hb=>(hf b hb).1⟩⟩
 done:=by
  intro X hP hw hK hc i pins s σ H E I hf st hg
  subst hP hw hK
  obtain ⟨xs,hq,hx⟩:=hg
  obtain ⟨its,rv,p,hz⟩:=I.tuple hq
  obtain ⟨f0,f1,f2,f3,f4,f5⟩:=hf it (by simp)
  have hl:=rv.length
  exact wpAny_pyNext_tuple_end (I.ok.hd hc) st (show s.heap.IsTuple a its.toArray from p) (by simp;omega) fun h' eb=>⟨rfl,I.turned (t':=s.toks) (fun b o hb e=>eb b o hb e) f0 f1 f3 f4 f5⟩
 self:=fun _ _ _ _ _ st h=>wpAny_pyIter_tupleiter st h
theorem turn_range {P:Program} {w:World} {K:PySem.W.Frag} {tg:Expr} (it:Addr) (lo:Int) (n:Nat):Turn P w K tg (Itr lo n) [it] it (fun i h=>IsRangeIter h it (lo+(i:Nat) * 1) ((n:Int) - (i:Nat)) 1) where
 mem:=by simp
 obj:=fun i h st b hb=>by
  have e:b=it:=by simpa using hb
  subst e
  exact ⟨_,st,fun v z=>by
   have z':Data.fields _=Data.cell v:=z
   cases z'⟩
 keep:=fun i h h' st k=>k it (by simp) _ st
 item:=by
  intro X hP hw hK hc i pins s σ H E I hf st hg
  subst hP hw hK
  obtain ⟨f0,f1,f2,f3,f4,f5⟩:=hf it (by simp)
  have W:=Walks.range (prog:=X.prog) (w:=X.w) (I.ok.hd hc) it lo 1 n
  refine W.item i s _ _ hg st fun v h' tk hv st' kk=>?_
  obtain ⟨t,rfl⟩:=hv
  have I1:Inv X pins σ H { s with heap:=h',toks:=tk }:=I.turned (fun b o hb e=>kk b o (by simpa using hb) e) f0 f1 f3 f4 f5
  refine ⟨_,rfl,go_of (s:={ s with heap:=h',toks:=tk }) (n:="range_iterator") st' rfl rfl (by decide) ⟨.int (lo+i),H,I1,⟨t,?_⟩,⟨rfl,rfl⟩,st',fun b hb=>(hf b hb).1⟩⟩
  rw [Int.mul_one]
 done:=by
  intro X hP hw hK hc i pins s σ H E I hf st hg
  subst hP hw hK
  obtain ⟨f0,f1,f2,f3,f4,f5⟩:=hf it (by simp)
  exact wpAny_pyNext_range_end (I.ok.hd hc) st (by have:n<=i:=hg;omega) fun h' eb=>⟨rfl,I.turned (t':=s.toks) (fun b o hb e=>eb b o hb e) f0 f1 f3 f4 f5⟩
 self:=fun _ _ _ _ _ st h=>wpAny_pyIter_rangeiter st h
end L2
namespace L2
open PySem PySem.Spec PyProof.Rows
section
variable {X:Cx} {tg:Expr}
def iList (K:PySem.W.Frag) (tl:TE):TI:=fun σ H R=>tl σ H fun x H1=>∃ a,x=.ref a/\(∃ xs,SqL K H1 a xs)/\R (Itl K a) H1
def iTup (K:PySem.W.Frag) (tl:TE):TI:=fun σ H R=>tl σ H fun x H1=>∃ a,x=.ref a/\(∃ xs,SqT K H1 a xs)/\R (Itt K a) H1
theorem pi_list {l:Expr} {tl:TE} (hl:PE X l tl):PI X tg l (iList X.K tl):=by
 intro pins s σ H R I h
 refine thn (hl pins s σ H _ I h) fun v s1 ⟨x,H1,I1,r1,q1⟩=>?_
 obtain ⟨a,e,⟨xs,hq⟩,q⟩:=q1
 subst e
 cases r1
 obtain ⟨its,rv,p,hz⟩:=I1.list hq
 refine wpAny_pyIter_list p.isList ?_
 refine ⟨s1.heap.objs.size,[s1.heap.objs.size],_,_,H1,rfl,I1.kept (t':=s1.toks) fun b o e=>Heap.get?_push_of_some _ e,turn_list a _,⟨_,Heap.get?_push_size _ rfl,rfl,rfl⟩,fun b hb=>?_,q⟩
 have e:b=s1.heap.objs.size:=by simpa using hb
 subst e
 exact I1.fpOk (Nat.le_refl _) (I1.hok.fresh (Nat.le_refl _))
theorem pi_tup {l:Expr} {tl:TE} (hl:PE X l tl):PI X tg l (iTup X.K tl):=by
 intro pins s σ H R I h
 refine thn (hl pins s σ H _ I h) fun v s1 ⟨x,H1,I1,r1,q1⟩=>?_
 obtain ⟨a,e,⟨xs,hq⟩,q⟩:=q1
 subst e
 cases r1
 obtain ⟨its,rv,p,hz⟩:=I1.tuple hq
 refine wpAny_pyIter_tuple (show s1.heap.IsTuple a its.toArray from p) ?_
 refine ⟨s1.heap.objs.size,[s1.heap.objs.size],_,_,H1,rfl,I1.kept (t':=s1.toks) fun b o e=>Heap.get?_push_of_some _ e,turn_tuple a _,⟨_,Heap.get?_push_size _ rfl,rfl,rfl⟩,fun b hb=>?_,q⟩
 have e:b=s1.heap.objs.size:=by simpa using hb
 subst e
 exact I1.fpOk (Nat.le_refl _) (I1.hok.fresh (Nat.le_refl _))
theorem range_it {pins:List (Addr × Obj)} {σ:St} {H:Hp} {s:Shared} {R:It->Hp->Prop} {E:Value->Shared->Prop} {lo hi:Int} {t u v:Tok} {tk:Nat} (I:Inv X pins σ H s) (h1:-(2 ^ 62)<=lo) (h2:lo<2 ^ 62) (h3:-(2 ^ 62)<=hi) (h4:hi<2 ^ 62)
  (q:R (Itr lo (hi - lo).toNat) H):wpAny (model X.prog X.w) X.A (pyIter (.ref s.heap.objs.size)) (PIE X pins σ tg R) E { s with heap:=s.heap.push { cls:=.type "range",data:=.fields #[.int lo t,.int hi u,.int 1 v] },toks:=tk }:=by
 refine wpAny_pyIter_range (IsRange.new ..) (small_one h1 h2 h3 h4) ?_
 have I1:Inv X pins σ H { s with heap:=s.heap.push { cls:=.type "range",data:=.fields #[.int lo t,.int hi u,.int 1 v] },toks:=tk }:=I.kept fun b o e=>Heap.get?_push_of_some _ e
 refine ⟨(s.heap.push { cls:=.type "range",data:=.fields #[.int lo t,.int hi u,.int 1 v] }).objs.size,[(s.heap.push { cls:=.type "range",data:=.fields #[.int lo t,.int hi u,.int 1 v] }).objs.size],_,_,H,rfl,
  I1.kept (t':=tk) fun b o e=>Heap.get?_push_of_some _ e,turn_range _ lo (hi - lo).toNat,?_,fun b hb=>?_,q⟩
 ·have e1:lo+((0:Nat):Int) * 1=lo:=by simp
  have e2:(((hi - lo).toNat:Nat):Int) - ((0:Nat):Int)=Builtin.Range.rangeSize lo hi 1:=by rw [rangeSize_one];split <;> omega
  show IsRangeIter _ _ (lo+((0:Nat):Int) * 1) ((((hi - lo).toNat:Nat):Int) - ((0:Nat):Int)) 1
  rw [e1,e2]
  exact Heap.get?_push_size _ rfl
 ·have e:b=(s.heap.push { cls:=.type "range",data:=.fields #[.int lo t,.int hi u,.int 1 v] }).objs.size:=by simpa using hb
  subst e
  exact I1.fpOk (Nat.le_refl _) (I1.hok.fresh (Nat.le_refl _))
def iRng1 (ta:TA):TI:=fun σ H R=>ta σ H fun vs H1=>∃ j:Int,vs=[.int j]/\-(2 ^ 62)<=j/\j<2 ^ 62/\R (Itr 0 j.toNat) H1
def iRng2 (ta:TA):TI:=fun σ H R=>ta σ H fun vs H1=>∃ i j:Int,vs=[.int i,.int j]/\(-(2 ^ 62)<=i/\i<2 ^ 62/\-(2 ^ 62)<=j/\j<2 ^ 62)/\R (Itr i (j - i).toNat) H1
theorem pi_range1 {a:Expr} {ta:TA} {p pos:Pos} (hg:Gl X "range") (hm:X.mg "range"=none) (ha:PA X [a] ta) (hs:starEach [a] X.env=[(false,eval a X.env)]:=by rfl):PI X tg (.Call (.Name "range" p) [a] [] pos) (iRng1 ta):=by
 intro pins s σ H R I h
 refine Call_ (ld_blt I hg hm boot_range (PyProof.Rows.callWith_type1 (thn (ha pos pins s σ H _ I h) fun us s1 ⟨vs,H1,I1,r1,q1⟩=>?_) hs rfl))
 obtain ⟨j,e,q1,q2,q⟩:=q1
 subst e
 cases r1 with
 | cons r rr=>
  cases rr
  obtain ⟨t,rfl⟩:=r
  exact call_range_1 (range_it I1 (by omega) (by omega) q1 q2 (by simpa using q))
theorem pi_range2 {a b:Expr} {ta:TA} {p pos:Pos} (hg:Gl X "range") (hm:X.mg "range"=none) (ha:PA X [a,b] ta) (hs:starEach [a,b] X.env=[(false,eval a X.env),(false,eval b X.env)]:=by rfl) (hs2:starEach [b] X.env=[(false,eval b X.env)]:=by rfl) :
  PI X tg (.Call (.Name "range" p) [a,b] [] pos) (iRng2 ta):=by
 intro pins s σ H R I h
 refine Call_ (ld_blt I hg hm boot_range (PyProof.Rows.callWith_type1 (thn (ha pos pins s σ H _ I h) fun us s1 ⟨vs,H1,I1,r1,q1⟩=>?_) (by rw [hs,hs2]) (by rw [hs2];rfl)))
 obtain ⟨i,j,e,⟨q1,q2,q3,q4⟩,q⟩:=q1
 subst e
 cases r1 with
 | cons r rr=>
  cases rr with
  | cons r' rr=>
   cases rr
   obtain ⟨t,rfl⟩:=r
   obtain ⟨t',rfl⟩:=r'
   exact call_range_2 (range_it I1 q1 q2 q3 q4 q)
def tFor (wi:TI) (g:TG) (tb:TS):TS:=fun D σ H=>wi σ H fun J H1=>∃ W:Nat->Nat->St->Hp->Prop,(∃ m,W 0 m σ H1)/\∀ i m σ H,W i m σ H ->
 (J.stop i H/\D.nx σ H)\/(J.go i H/\∃ N:St->Hp->Prop,(∀ σ' H',N σ' H'->∃ m',m'<m/\W (i+1) m' σ' H')/\∀ x H',J.yld i H x H'->g x σ H' fun σ2 H2=>tb { D with nx:=N,ct:=N,bk:=D.nx } σ2 H2)
def pinsAt (fp:List Addr) (h:Heap):List (Addr × Obj):=fp.filterMap fun b=>(h.get? b).map fun o=>(b,o)
theorem mem_pinsAt {fp:List Addr} {h:Heap} {b:Addr} {o:Obj} (hb:b ∈ fp) (e:h.get? b=some o):(b,o) ∈ pinsAt fp h:=List.mem_filterMap.mpr ⟨b,hb,by rw [e];rfl⟩
theorem of_pinsAt {fp:List Addr} {h:Heap} {p:Addr × Obj} (hp:p ∈ pinsAt fp h):p.1 ∈ fp/\h.get? p.1=some p.2:=by
 obtain ⟨b,hb,e⟩:=List.mem_filterMap.mp hp
 cases q:h.get? b with
 | none=>rw [q] at e;cases e
 | some o=>
  rw [q] at e
  have e':(b,o)=p:=Option.some.inj e
  subst e'
  exact ⟨hb,q⟩
theorem Inv.pinned {pins:List (Addr × Obj)} {σ:St} {H:Hp} {s:Shared} {fp:List Addr} (I:Inv X pins σ H s) (hf:∀ b ∈ fp,FpOk X pins H b) (ho:∀ b ∈ fp,∃ o,s.heap.get? b=some o/\∀ v,o.data ≠ .cell v):Inv X (pins++pinsAt fp s.heap) σ H s:=
 I.pins_of fun p hp=>(List.mem_append.mp hp).elim (fun z=>I.pin p (List.mem_append_right _ z)) fun z=>by
  obtain ⟨hb,e⟩:=of_pinsAt z
  obtain ⟨f0,f1,f2,_⟩:=hf p.1 hb
  obtain ⟨o,e',d⟩:=ho p.1 hb
  rw [e] at e';cases e'
  exact ⟨e,f0,f1,f2,d⟩
theorem Inv.unpinned {pins pl:List (Addr × Obj)} {σ:St} {H:Hp} {s:Shared} (I:Inv X (pins++pl) σ H s):Inv X pins σ H s:=I.pins_of fun p hp=>I.pin p (List.mem_append_right _ (List.mem_append_left _ hp))
theorem ps_for {iter:Expr} {body:List Stmt} {wi:TI} {g:TG} {tb:TS} {pos:Pos} (hp:PassesOwn (model X.prog X.w) X.A X.env X.xe) (hc:X.calm=true) (hi:PI X tg iter wi) (hg:PG X tg g) (hb:PSs X body tb)
  (hs:∀ x,foldedSetIterable iter X.env x=pure x:=by intro _;rfl):PS X (.For tg iter body [] pos) (tFor wi g tb):=by
 intro pins s σ H D I h
 refine wpAny_For (thn (hi pins s σ H _ I h) fun v s1 h1=>thn h1 fun itv s2 h2=>?_) hs
 obtain ⟨it,fp,tn,J,H2,e,I2,T,st2,f2,W,⟨m0,w0⟩,turn⟩:=h2
 subst e
 have stat:∀ {H':Hp},(∀ b ∈ fp,H' b=none)->∀ b ∈ fp,FpOk X pins H' b:=fun hn b hb=>⟨hn b hb,(f2 b hb).2⟩
 refine codeAny_forLoop_any (fun n s'=>∃ i σ' H',Inv X pins σ' H' s'/\tn i s'.heap/\(∀ b ∈ fp,H' b=none)/\W i n σ' H') ?_ m0 ⟨0,σ,H2,I2,st2,fun b hb=>(f2 b hb).1,w0⟩
 rintro n s3 ⟨i,σ3,H3,I3,st3,fr3,w3⟩
 rcases turn i n σ3 H3 w3 with ⟨stop,qn⟩ | ⟨go,N,hN,step⟩
 ·refine wpAny_passesOwn hp (thn (T.done X rfl rfl rfl hc i pins s3 σ3 H3 X.xe I3 (stat fr3) st3 stop) fun r s4 ⟨hr,I4⟩=>?_)
  subst hr
  exact wpAny_execs_nil ⟨σ3,H3,I4,qn⟩
 ·refine wpAny_passesOwn hp (thn (T.item X rfl rfl rfl hc i pins s3 σ3 H3 X.xe I3 (stat fr3) st3 go) fun r s4 ⟨u,hr,h4⟩=>?_)
  subst hr
  refine wpAny_passesOwn hp (thn h4 fun _ s5 ⟨x,H5,I5,r5,y5,st5,fr5⟩=>?_)
  have I5':=I5.pinned (stat fr5) (T.obj _ _ st5)
  refine wpAny_passesOwn hp (thn (hg _ s5 σ3 H5 x u _ I5' r5 (step x H5 y5)) fun _ s6 ⟨σ6,H6,I6,q6⟩=>?_)
  refine wpAny_passesOwn hp (thn (hb _ s6 σ6 H6 _ I6 q6) fun f s7 q7=>?_)
  have again:∀ {σ7:St} {H7:Hp},Inv X (pins++pinsAt fp s5.heap) σ7 H7 s7->N σ7 H7->∃ m,m<n/\∃ i σ' H',Inv X pins σ' H' s7/\tn i s7.heap/\(∀ b ∈ fp,H' b=none)/\W i m σ' H':=fun {σ7 H7} I7 n7=>by
   obtain ⟨m',hm,w7⟩:=hN σ7 H7 n7
   refine ⟨m',hm,i+1,σ7,H7,I7.unpinned,T.keep _ _ _ st5 fun b hb o e=>(I7.pin (b,o) (List.mem_append_right _ (List.mem_append_right _ (mem_pinsAt hb e)))).1,fun b hb=>?_,w7⟩
   obtain ⟨o,e,d⟩:=T.obj _ _ st5 b hb
   exact (I7.pin (b,o) (List.mem_append_right _ (List.mem_append_right _ (mem_pinsAt hb e)))).2.1
  cases f with
  | next=>obtain ⟨σ7,H7,I7,n7⟩:=q7;exact again I7 n7
  | cont=>obtain ⟨σ7,H7,I7,n7⟩:=q7;exact again I7 n7
  | brk=>obtain ⟨σ7,H7,I7,q7⟩:=q7;exact ⟨σ7,H7,I7.unpinned,q7⟩
  | ret v=>obtain ⟨x7,σ7,H7,I7,r7,q7⟩:=q7;exact ⟨x7,σ7,H7,I7.unpinned,r7,q7⟩
end
theorem for_list {K:PySem.W.Frag} {a:Addr} {xs:List V} {g:TG} {tb:TS} {D:Ends} {σ:St} {H:Hp} (Pv:Nat->St->Hp->Prop) (h0:Pv 0 σ H) (hl:∀ i σ H,i<=xs.length->Pv i σ H->SqL K H a xs)
  (hs:∀ i x σ H,xs[i]?=some x->Pv i σ H->g x σ H fun σ2 H2=>tb { D with nx:=Pv (i+1),ct:=Pv (i+1),bk:=D.nx } σ2 H2) (hd:∀ σ H,Pv xs.length σ H->D.nx σ H) :
  ∃ W:Nat->Nat->St->Hp->Prop,(∃ m,W 0 m σ H)/\∀ i m σ H,W i m σ H ->
   ((Itl K a).stop i H/\D.nx σ H)\/((Itl K a).go i H/\∃ N:St->Hp->Prop,(∀ σ' H',N σ' H'->∃ m',m'<m/\W (i+1) m' σ' H')/\∀ x H',(Itl K a).yld i H x H'->g x σ H' fun σ2 H2=>tb { D with nx:=N,ct:=N,bk:=D.nx } σ2 H2):=by
 refine ⟨fun i m σ H=>m=xs.length - i/\i<=xs.length/\Pv i σ H,⟨xs.length,by simp,Nat.zero_le _,h0⟩,?_⟩
 rintro i m σ H ⟨rfl,hi,p⟩
 have q:=hl i σ H hi p
 by_cases hlt:i<xs.length
 ·refine .inr ⟨⟨xs,xs[i],q,by simp [hlt]⟩,Pv (i+1),fun σ' H' p'=>⟨xs.length - (i+1),by omega,rfl,hlt,p'⟩,fun x H' y=>?_⟩
  obtain ⟨e,y⟩:=y
  subst e
  exact hs i x σ _ (y xs q) p
 ·have e:i=xs.length:=by omega
  subst e
  exact .inl ⟨⟨xs,q,Nat.le_refl _⟩,hd σ H p⟩
end L2
namespace L2
open PySem PySem.Spec PyProof.Rows
abbrev R2:=V->V->Hp->VK->Prop
def OpR (X:Cx) (f:Value->Value->Sem Value) (r:R2):Prop:=
 ∀ (pins:List (Addr × Obj)) (s:Shared) (σ:St) (H:Hp) (x y:V) (v u:Value) (Q:VK),Inv X pins σ H s->RelV x v->RelV y u->r x y H Q ->
  wpAny (model X.prog X.w) X.A (f v u) (EP X pins σ Q) X.xe s
def UnR (X:Cx) (f:Value->Sem Value) (r:V->Hp->VK->Prop):Prop:=
 ∀ (pins:List (Addr × Obj)) (s:Shared) (σ:St) (H:Hp) (x:V) (v:Value) (Q:VK),Inv X pins σ H s->RelV x v->r x H Q ->
  wpAny (model X.prog X.w) X.A (f v) (EP X pins σ Q) X.xe s
def CallR (X:Cx) (f:Value) (r:List V->Hp->VK->Prop):Prop:=
 ∀ (pins:List (Addr × Obj)) (s:Shared) (σ:St) (H:Hp) (xs:List V) (us:List Value) (Q:VK),Inv X pins σ H s->Vals xs us->r xs H Q ->
  wpAny (model X.prog X.w) X.A (call f us) (EP X pins σ Q) X.xe s
def tOp (r:R2) (ta tb:TE):TE:=fun σ H Q=>ta σ H fun x H1=>tb σ H1 fun y H2=>r x y H2 Q
def tUn (r:V->Hp->VK->Prop) (ta:TE):TE:=fun σ H Q=>ta σ H fun x H1=>r x H1 Q
def rI (C:Int->Int->Prop) (g:Int->Int->V):R2:=fun x y H Q=>∃ i j,x=.int i/\y=.int j/\C i j/\Q (g i j) H
def rI0 (g:Int->Int->V):R2:=fun x y H Q=>∃ i j,x=.int i/\y=.int j/\Q (g i j) H
def rU (g:Int->V):V->Hp->VK->Prop:=fun x H Q=>∃ i,x=.int i/\Q (g i) H
section
variable {X:Cx} {a b c:Expr} {ta tb tc:TE} {pos:Pos}
theorem binT (ha:PE X a ta) (hb:PE X b tb) {pins:List (Addr × Obj)} {s:Shared} {σ:St} {H:Hp} {R:V->V->Hp->Prop} (I:Inv X pins σ H s)
  (h:ta σ H fun x H1=>tb σ H1 fun y H2=>R x y H2) {Q:Value->Shared->Prop} {f:Value->Value->Sem Value}
  (hf:∀ v u s2 x y H2,Inv X pins σ H2 s2->RelV x v->RelV y u->R x y H2->wpAny (model X.prog X.w) X.A (f v u) Q X.xe s2) :
  wpAny (model X.prog X.w) X.A (eval a X.env) (fun v s₁=>wpAny (model X.prog X.w) X.A (eval b X.env) (fun u s₂=>wpAny (model X.prog X.w) X.A (f v u) Q X.xe s₂) X.xe s₁) X.xe s:=by
 refine thn (ha pins s σ H _ I h) fun v s1 ⟨x,H1,I1,r1,q1⟩=>?_
 refine thn (hb pins s1 σ H1 _ I1 q1) fun u s2 ⟨y,H2,I2,r2,q2⟩=>?_
 exact hf v u s2 x y H2 I2 r1 r2 q2
theorem pe_op {op:Operator} {r:R2} (ho:OpR X (binaryOp op) r) (ha:PE X a ta) (hb:PE X b tb):PE X (.BinOp a op b pos) (tOp r ta tb):=by
 intro pins s σ H Q I h
 exact wpAny_BinOp (binT ha hb I h fun v u s2 x y H2 I2 rx ry q=>ho pins s2 σ H2 x y v u Q I2 rx ry q)
theorem pe_un {op:UnaryOp} {r:V->Hp->VK->Prop} (ho:UnR X (unaryOp op) r) (ha:PE X a ta):PE X (.UnaryOp op a pos) (tUn r ta):=by
 intro pins s σ H Q I h
 exact UnaryOp_ (thn (ha pins s σ H _ I h) fun v s1 ⟨x,H1,I1,r1,q1⟩=>ho pins s1 σ H1 x v Q I1 r1 q1)
theorem opI {f:Value->Value->Sem Value} {C:Int->Int->Prop} {g:Int->Int->Int}
  (rule:∀ (i j:Int) (t u:Tok) (s:Shared) (Q:Value->Shared->Prop) (E:Value->Shared->Prop),C i j->Q (.int (g i j) s.toks) { s with toks:=s.toks+1 }->wpAny (model X.prog X.w) X.A (f (.int i t) (.int j u)) Q E s) :
  OpR X f (rI C fun i j=>.int (g i j)):=by
 intro pins s σ H x y v u Q I rx ry h
 obtain ⟨i,j,rfl,rfl,hc,q⟩:=h
 obtain ⟨t,rfl⟩:=rx
 obtain ⟨t',rfl⟩:=ry
 exact rule i j t t' s _ _ hc ⟨.int (g i j),H,I.tok _,⟨_,rfl⟩,q⟩
theorem opI0 {f:Value->Value->Sem Value} {g:Int->Int->Int}
  (rule:∀ (i j:Int) (t u:Tok) (s:Shared) (Q:Value->Shared->Prop) (E:Value->Shared->Prop),Q (.int (g i j) s.toks) { s with toks:=s.toks+1 }->wpAny (model X.prog X.w) X.A (f (.int i t) (.int j u)) Q E s) :
  OpR X f (rI0 fun i j=>.int (g i j)):=by
 intro pins s σ H x y v u Q I rx ry h
 obtain ⟨i,j,rfl,rfl,q⟩:=h
 obtain ⟨t,rfl⟩:=rx
 obtain ⟨t',rfl⟩:=ry
 exact rule i j t t' s _ _ ⟨.int (g i j),H,I.tok _,⟨_,rfl⟩,q⟩
theorem opB0 {f:Value->Value->Sem Value} {g:Int->Int->Bool}
  (rule:∀ (i j:Int) (t u:Tok) (s:Shared) (Q:Value->Shared->Prop) (E:Value->Shared->Prop),Q (.bool (g i j)) s->wpAny (model X.prog X.w) X.A (f (.int i t) (.int j u)) Q E s) :
  OpR X f (rI0 fun i j=>.bl (g i j)):=by
 intro pins s σ H x y v u Q I rx ry h
 obtain ⟨i,j,rfl,rfl,q⟩:=h
 obtain ⟨t,rfl⟩:=rx
 obtain ⟨t',rfl⟩:=ry
 exact rule i j t t' s _ _ ⟨.bl (g i j),H,I,rfl,q⟩
def CDiv (i j:Int):Prop:=0<j/\j<1073741824
def CPow (i j:Int):Prop:=0<=j/\j<=1000000/\i.natAbs<2 ^ 64
def CMul (i j:Int):Prop:=(-(2 ^ 64)<i/\i<2 ^ 64)\/(-(2 ^ 64)<j/\j<2 ^ 64)
theorem CMul.ok {i j:Int} (h:CMul i j):IntMulOk i j:=by
 rcases h with ⟨h1,h2⟩ | ⟨h1,h2⟩
 ·exact .of_left (intBits_le_64 h1 h2)
 ·exact .of_right (intBits_le_64 h1 h2)
theorem two_pow_nn (k:Nat):(0:Int)<=2 ^ k:=by
 rw [two_pow_cast]
 exact Int.natCast_nonneg _
theorem op_add:OpR X (binaryOp .Add) (rI0 fun i j=>.int (i+j)):=opI0 fun _ _ _ _ _ _ _ q=>add_int q
theorem op_sub:OpR X (binaryOp .Sub) (rI0 fun i j=>.int (i - j)):=opI0 fun _ _ _ _ _ _ _ q=>sub_int q
theorem op_mul:OpR X (binaryOp .Mult) (rI CMul fun i j=>.int (i * j)):=opI fun _ _ _ _ _ _ _ hc q=>mul_int q hc.ok
theorem op_fdiv:OpR X (binaryOp .FloorDiv) (rI CDiv fun i j=>.int (i / j)):=opI fun i j _ _ _ _ _ hc q=>by
 have h1:(0:Int)<j:=hc.1
 have h2:j<1073741824:=hc.2
 exact floordiv_int (by omega) (by rw [Int.fdiv_eq_ediv_of_nonneg i (by omega)];exact q) (.inl (PyProof.noPylong_small (by omega)))
theorem op_mod:OpR X (binaryOp .Mod) (rI (fun _ j=>0<j) fun i j=>.int (i % j)):=opI fun i j _ _ _ _ _ hc q=>by
 have h1:(0:Int)<j:=hc
 exact mod_int' (by omega) (by rw [Int.fmod_eq_emod_of_nonneg i (by omega)];exact q)
theorem op_shl:OpR X (binaryOp .LShift) (rI CPow fun i j=>.int (i * 2 ^ j.toNat)):=opI fun _ _ _ _ _ _ _ hc q=>lshift_int_small hc.1 hc.2.1 hc.2.2 q
theorem op_shr:OpR X (binaryOp .RShift) (rI (fun _ j=>0<=j) fun i j=>.int (i / 2 ^ j.toNat)):=opI fun i j _ _ _ _ _ hc q=>
 rshift_int hc (by rw [Int.fdiv_eq_ediv_of_nonneg i (two_pow_nn _)];exact q)
theorem op_and:OpR X (binaryOp .BitAnd) (rI0 fun i j=>.int (Builtin.bitAnd i j)):=opI0 fun _ _ _ _ _ _ _ q=>and_int q
theorem unI {f:Value->Sem Value} {g:Int->Int}
  (rule:∀ (i:Int) (t:Tok) (s:Shared) (Q:Value->Shared->Prop) (E:Value->Shared->Prop),Q (.int (g i) s.toks) { s with toks:=s.toks+1 }->wpAny (model X.prog X.w) X.A (f (.int i t)) Q E s) :
  UnR X f (rU fun i=>.int (g i)):=by
 intro pins s σ H x v Q I rx h
 obtain ⟨i,rfl,q⟩:=h
 obtain ⟨t,rfl⟩:=rx
 exact rule i t s _ _ ⟨.int (g i),H,I.tok _,⟨_,rfl⟩,q⟩
theorem un_neg:UnR X (unaryOp .USub) (rU fun i=>.int (-i)):=unI fun _ _ _ _ _ q=>neg_int q
theorem un_inv:UnR X (unaryOp .Invert) (rU fun i=>.int (Builtin.bitNot i)):=unI fun _ _ _ _ _ q=>invert_int q
end
def scal:V->V->Bool
 | .non,.non=>true | .non,.int _=>true | .int _,.non=>true | .non,.bl _=>true | .bl _,.non=>true | .non,.str _=>true | .str _,.non=>true
 | .int _,.int _=>true | .bl _,.bl _=>true | .str _,.str _=>true | .byt _,.byt _=>true
 | .int _,.str _=>true | .str _,.int _=>true | .bl _,.str _=>true | .str _,.bl _=>true
 | _,_=>false
def rEq:R2:=fun x y H Q=>scal x y=true/\Q (.bl (decide (x=y))) H
def rNe:R2:=fun x y H Q=>scal x y=true/\Q (.bl (!decide (x=y))) H
theorem dec_int {i j:Int}:decide (V.int i=V.int j)=(i==j):=by
 rw [Bool.eq_iff_iff]
 simp
theorem dec_bl {i j:Bool}:decide (V.bl i=V.bl j)=(i==j):=by
 rw [Bool.eq_iff_iff]
 simp
theorem dec_str {i j:Str}:decide (V.str i=V.str j)=(i==j):=by
 rw [Bool.eq_iff_iff]
 simp
theorem dec_byt {i j:Array UInt8}:decide (V.byt i=V.byt j)=(i.toList==j.toList):=by
 rw [Bool.eq_iff_iff]
 cases i
 cases j
 simp
section
variable {X:Cx} {a b c:Expr} {ta tb tc:TE} {pos:Pos}
theorem fin_bl {pins:List (Addr × Obj)} {σ:St} {H:Hp} {s:Shared} {Q:VK} {k k':Bool} (I:Inv X pins σ H s) (q:Q (.bl k) H) (e:k=k'):EP X pins σ Q (.bool k') s:=by
 subst e
 exact ⟨.bl k,H,I,rfl,q⟩
theorem op_eq:OpR X (compareOp .Eq) rEq:=by
 intro pins s σ H x y v u Q I rx ry h
 obtain ⟨hs,q⟩:=h
 cases x with
 | non=>
  cases rx
  cases y with
  | non=>cases ry;exact PySem.EqNone.eq_none_none (fin_bl I q (by simp))
  | bl j=>cases ry;exact PySem.EqNone.eq_none_bool (fin_bl I q (by simp))
  | int j=>obtain ⟨t',rfl⟩:=ry;exact PySem.EqNone.eq_none_int (fin_bl I q (by simp))
  | str j=>obtain ⟨t',rfl⟩:=ry;exact PySem.EqNone.eq_none_str (fin_bl I q (by simp))
  | _=>exact absurd (show false=true from hs) Bool.false_ne_true
 | bl i=>
  cases rx
  cases y with
  | non=>cases ry;exact PySem.EqNone.eq_bool_none (fin_bl I q (by simp))
  | bl j=>cases ry;exact eq_bool (fin_bl I q dec_bl)
  | str j=>obtain ⟨t',rfl⟩:=ry;exact PySem.EqMixed.eq_bool_str (fin_bl I q (by simp))
  | _=>exact absurd (show false=true from hs) Bool.false_ne_true
 | int i=>
  obtain ⟨t,rfl⟩:=rx
  cases y with
  | non=>cases ry;exact PySem.EqNone.eq_int_none (fin_bl I q (by simp))
  | int j=>obtain ⟨t',rfl⟩:=ry;exact eq_int (fin_bl I q dec_int)
  | str j=>obtain ⟨t',rfl⟩:=ry;exact PySem.EqMixed.eq_int_str (fin_bl I q (by simp))
  | _=>exact absurd (show false=true from hs) Bool.false_ne_true
 | str i=>
  obtain ⟨t,rfl⟩:=rx
  cases y with
  | non=>cases ry;exact PySem.EqNone.eq_str_none (fin_bl I q (by simp))
  | bl j=>cases ry;exact PySem.EqMixed.eq_str_bool (fin_bl I q (by simp))
  | int j=>obtain ⟨t',rfl⟩:=ry;exact PySem.EqMixed.eq_str_int (fin_bl I q (by simp))
  | str j=>obtain ⟨t',rfl⟩:=ry;exact eq_str (fin_bl I q dec_str)
  | _=>exact absurd (show false=true from hs) Bool.false_ne_true
 | byt i=>
  obtain ⟨t,rfl⟩:=rx
  cases y with
  | byt j=>obtain ⟨t',rfl⟩:=ry;exact PySem.W.eq_bytes (fin_bl I q dec_byt)
  | _=>exact absurd (show false=true from hs) Bool.false_ne_true
 | _=>cases y <;> exact absurd (show false=true from hs) Bool.false_ne_true
theorem op_ne:OpR X (compareOp .NotEq) rNe:=by
 intro pins s σ H x y v u Q I rx ry h
 obtain ⟨hs,q⟩:=h
 cases x with
 | non=>
  cases rx
  cases y with
  | non=>cases ry;exact PySem.EqNone.ne_none_none (fin_bl I q (by simp))
  | bl j=>cases ry;exact PySem.EqNone.ne_none_bool (fin_bl I q (by simp))
  | int j=>obtain ⟨t',rfl⟩:=ry;exact PySem.EqNone.ne_none_int (fin_bl I q (by simp))
  | str j=>obtain ⟨t',rfl⟩:=ry;exact PySem.EqNone.ne_none_str (fin_bl I q (by simp))
  | _=>exact absurd (show false=true from hs) Bool.false_ne_true
 | bl i=>
  cases rx
  cases y with
  | non=>cases ry;exact PySem.EqNone.ne_bool_none (fin_bl I q (by simp))
  | bl j=>cases ry;exact ne_bool (fin_bl I q (congrArg not dec_bl))
  | str j=>obtain ⟨t',rfl⟩:=ry;exact PySem.EqMixed.ne_bool_str (fin_bl I q (by simp))
  | _=>exact absurd (show false=true from hs) Bool.false_ne_true
 | int i=>
  obtain ⟨t,rfl⟩:=rx
  cases y with
  | non=>cases ry;exact PySem.EqNone.ne_int_none (fin_bl I q (by simp))
  | int j=>obtain ⟨t',rfl⟩:=ry;exact ne_int (fin_bl I q (congrArg not dec_int))
  | str j=>obtain ⟨t',rfl⟩:=ry;exact PySem.EqMixed.ne_int_str (fin_bl I q (by simp))
  | _=>exact absurd (show false=true from hs) Bool.false_ne_true
 | str i=>
  obtain ⟨t,rfl⟩:=rx
  cases y with
  | non=>cases ry;exact PySem.EqNone.ne_str_none (fin_bl I q (by simp))
  | bl j=>cases ry;exact PySem.EqMixed.ne_str_bool (fin_bl I q (by simp))
  | int j=>obtain ⟨t',rfl⟩:=ry;exact PySem.EqMixed.ne_str_int (fin_bl I q (by simp))
  | str j=>obtain ⟨t',rfl⟩:=ry;exact ne_str (fin_bl I q (congrArg not dec_str))
  | _=>exact absurd (show false=true from hs) Bool.false_ne_true
 | byt i=>
  obtain ⟨t,rfl⟩:=rx
  cases y with
  | byt j=>obtain ⟨t',rfl⟩:=ry;exact PySem.W.ne_bytes (fin_bl I q (congrArg not dec_byt))
  | _=>exact absurd (show false=true from hs) Bool.false_ne_true
 | _=>cases y <;> exact absurd (show false=true from hs) Bool.false_ne_true
theorem op_lt:OpR X (compareOp .Lt) (rI0 fun i j=>.bl (decide (i<j))):=opB0 fun _ _ _ _ _ _ _ q=>lt_int q
theorem op_le:OpR X (compareOp .LtE) (rI0 fun i j=>.bl (decide (i<=j))):=opB0 fun _ _ _ _ _ _ _ q=>le_int q
theorem op_gt:OpR X (compareOp .Gt) (rI0 fun i j=>.bl (decide (j<i))):=opB0 fun _ _ _ _ _ _ _ q=>gt_int q
theorem op_ge:OpR X (compareOp .GtE) (rI0 fun i j=>.bl (decide (j<=i))):=opB0 fun _ _ _ _ _ _ _ q=>ge_int q
theorem nomark (b:Expr) {op:CmpOp} (h:op ≠ .In:=by decide) (h2:op ≠ .NotIn:=by decide):behindInMarks op b=false:=by
 have e1:(op==CmpOp.In)=false:=by cases op <;> first | rfl | exact absurd rfl h
 have e2:(op==CmpOp.NotIn)=false:=by cases op <;> first | rfl | exact absurd rfl h2
 cases b <;> simp [behindInMarks,e1,e2]
theorem pe_cmpR {op:CmpOp} {r:R2} (ho:OpR X (compareOp op) r) (ha:PE X a ta) (hb:PE X b tb) (hm:behindInMarks op b=false):PE X (.Compare a [op] [b] pos) (tOp r ta tb):=by
 intro pins s σ H Q I h
 exact wpAny_Compare1 (binT ha hb I h fun v u s2 x y H2 I2 rx ry q=>ho pins s2 σ H2 x y v u Q I2 rx ry q) hm
def tTest (t:TE):TT:=fun σ H Q=>t σ H fun x H'=>∃ k,x=.bl k/\Q k H'
theorem pt_cmpR {op:CmpOp} {r:R2} (ho:OpR X (compareOp op) r) (ha:PE X a ta) (hb:PE X b tb) (hm:behindInMarks op b=false):PT X (.Compare a [op] [b] pos) (tTest (tOp r ta tb)):=by
 intro pins s σ H Q I h
 refine wpAny_isTrue_Compare1 (thn (ha pins s σ H _ I h) fun v s1 ⟨x,H1,I1,r1,q1⟩=>thn (hb pins s1 σ H1 _ I1 q1) fun u s2 ⟨y,H2,I2,r2,q2⟩=>
  thn (ho pins s2 σ H2 x y v u _ I2 r1 r2 q2) fun c s3 ⟨z,H3,I3,r3,k,e,q3⟩=>?_) hm
 subst e
 cases r3
 exact wpAny_truthy_bool ⟨H3,I3,q3⟩
def tChain (r r':R2) (ta tb tc:TE):TE:=fun σ H Q=>ta σ H fun x H1=>tb σ H1 fun y H2=>r x y H2 fun z H3=>∃ k,z=.bl k/\
 (if k=true then tc σ H3 fun w' H4=>r' y w' H4 Q else Q (.bl false) H3)
theorem pe_chain {op op':CmpOp} {r r':R2} (ho:OpR X (compareOp op) r) (ho':OpR X (compareOp op') r') (ha:PE X a ta) (hb:PE X b tb) (hc:PE X c tc)
  (hm:lastMarks [op,op'] [b,c]=false:=by with_unfolding_all rfl):PE X (.Compare a [op,op'] [b,c] pos) (tChain r r' ta tb tc):=by
 intro pins s σ H Q I h
 refine Compare_chain (thn (ha pins s σ H _ I h) fun v s1 ⟨x,H1,I1,r1,q1⟩=>chain_link (thn (hb pins s1 σ H1 _ I1 q1) fun u s2 ⟨y,H2,I2,r2,q2⟩=>
  thn (ho pins s2 σ H2 x y v u _ I2 r1 r2 q2) fun d s3 ⟨z,H3,I3,r3,k,e,q3⟩=>?_)) hm
 subst e
 cases r3
 refine wpAny_truthy_bool ?_
 cases k with
 | false=>exact ite_ff ⟨.bl false,H3,I3,rfl,q3⟩
 | true=>exact ite_tt (chain_last (thn (hc pins s3 σ H3 _ I3 q3) fun w' s4 ⟨z',H4,I4,r4,q4⟩=>ho' pins s4 σ H4 y z' u w' Q I4 r2 r4 q4))
theorem pt_chain {op op':CmpOp} {r r':R2} (ho:OpR X (compareOp op) r) (ho':OpR X (compareOp op') r') (ha:PE X a ta) (hb:PE X b tb) (hc:PE X c tc)
  (hm:lastMarks [op,op'] [b,c]=false:=by with_unfolding_all rfl):PT X (.Compare a [op,op'] [b,c] pos) (tTest (tChain r r' ta tb tc)):=by
 intro pins s σ H Q I h
 refine isTrue_chain (thn (ha pins s σ H _ I h) fun v s1 ⟨x,H1,I1,r1,q1⟩=>test_link (thn (hb pins s1 σ H1 _ I1 q1) fun u s2 ⟨y,H2,I2,r2,q2⟩=>
  thn (ho pins s2 σ H2 x y v u _ I2 r1 r2 q2) fun d s3 ⟨z,H3,I3,r3,k,e,q3⟩=>?_)) hm
 subst e
 cases r3
 refine wpAny_truthy_bool ?_
 cases k with
 | false=>
  obtain ⟨k',e',q'⟩:=q3
  cases e'
  exact ite_ff ⟨H3,I3,q'⟩
 | true=>
  refine ite_tt (test_last (thn (hc pins s3 σ H3 _ I3 q3) fun w' s4 ⟨z',H4,I4,r4,q4⟩=>thn (ho' pins s4 σ H4 y z' u w' _ I4 r2 r4 q4) fun d' s5 ⟨z2,H5,I5,r5,k2,e2,q5⟩=>?_))
  subst e2
  cases r5
  exact wpAny_truthy_bool ⟨H5,I5,q5⟩
theorem line63:(sizeLine:Nat)<2 ^ 63:=by rw [sizeLine_eq];decide
theorem vals1 {x:V} {us:List Value} (r:Vals [x] us):∃ u,us=[u]/\RelV x u:=by
 cases r with
 | cons r1 r2=>cases r2;exact ⟨_,rfl,r1⟩
theorem vals2 {x y:V} {us:List Value} (r:Vals [x,y] us):∃ u w',us=[u,w']/\RelV x u/\RelV y w':=by
 cases r with
 | cons r1 r2=>
  cases r2 with
  | cons r3 r4=>cases r4;exact ⟨_,_,rfl,r1,r3⟩
theorem call_max2 (hc:X.calm=true):CallR X (.builtin "max") (fun xs H Q=>∃ i j,xs=[.int i,.int j]/\Q (.int (if j > i then j else i)) H):=by
 intro pins s σ H xs us Q I r h
 obtain ⟨i,j,rfl,q⟩:=h
 obtain ⟨u,w',rfl,⟨t,rfl⟩,⟨t',rfl⟩⟩:=vals2 r
 refine max_two_ints (I.ok.hd hc) fun h' tk k=>⟨_,H,I.kept k,?_,q⟩
 by_cases hj:j > i
 ·rw [if_pos hj,if_pos hj];exact ⟨_,rfl⟩
 ·rw [if_neg hj,if_neg hj];exact ⟨_,rfl⟩
end
end L2
namespace L2
open PySem PySem.Spec PyProof.Rows
structure ObjM (h:Heap) (x dx C:Addr) (mA:Str->Option Value):Prop where
 obj:h.get? x=some (PySem.W.instObj C dx)
 ns:h.Ns1 dx mA
 ne:dx ≠ x
theorem lookIn_ns {h:Heap} {dx:Addr} {mA:Str->Option Value} (n:h.Ns1 dx mA):∃ od,h.get? dx=some od/\∀ name,PySem.W.lookIn name od=some (mA name):=by
 obtain ⟨o,es,ep,ho,hd,hk,_,hm⟩:=n
 refine ⟨o,ho,fun name=>?_⟩
 have e:=hm name
 unfold nsFind findBy at e
 rw [<-Array.find?_toList] at e
 unfold PySem.W.lookIn
 rw [hd]
 dsimp only
 split
 ·rename_i y q
  rw [q] at e
  exact congrArg some e
 ·rename_i q
  rw [q] at e
  have a:es.toList.any (·.refKey)=false:=by
   rw [List.any_eq_false]
   intro y hy
   obtain ⟨z,t,hkey⟩:=hk y (Array.mem_toList_iff.mp hy)
   simp [DictEntry.refKey,hkey]
  have a':¬ es.toList.any (·.refKey)=true:=by rw [a];exact Bool.false_ne_true
  rw [if_neg a']
  exact congrArg some e
theorem ObjM.look {h:Heap} {x dx C:Addr} {mA:Str->Option Value} (I:ObjM h x dx C mA):∃ od,PySem.W.InstAt h x (PySem.W.instObj C dx) C (some od)/\∀ name,PySem.W.lookIn name od=some (mA name):=
 let ⟨od,ho,hl⟩:=lookIn_ns I.ns
 ⟨od,⟨I.obj,rfl,rfl,ho⟩,hl⟩
section
variable {prog:Program} {w:World} {A:Around} {E:Value->Shared->Prop} {s:Shared} {K:PySem.W.Frag} {x dx C f:Addr} {mA:Str->Option Value} {name:Str} {v:Value}
theorem get_map {expr:Bool} {Q:Value->Shared->Prop} (X:K.In s.heap) (I:ObjM s.heap x dx C mA) (hg:PySem.W.plainGet K C name=true) (hh:PySem.W.hasDictIn K C=true)
  (ha:PySem.W.findIn K (.ref C) name=some none) (hv:mA name=some v) (hv':PySem.W.handedIn v=true) (h:Q v { s with toks:=s.toks+1 }) :
  wpAny (model prog w) A (getAttr (.ref x) name expr) Q E s:=by
 obtain ⟨od,J,hl⟩:=I.look
 exact PySem.W.get_value X J (PySem.W.plainGet_of hg).1 (PySem.W.findObj_own hh ha rfl (by rw [hl,hv])) hv' h
theorem get_meth {pl:Sem Bool} {Q:Value × List Value->Shared->Prop} (X:K.In s.heap) (I:ObjM s.heap x dx C mA) (hg:PySem.W.plainGet K C name=true)
  (hf:PySem.W.findIn K (.ref C) name=some (some (.ref f))) (ht:PySem.W.isFn K (.ref f)=true) (hv:mA name=none) (h:Q (.ref f,[.ref x]) s) :
  wpAny (model prog w) A (getMethod (.ref x) name pl) Q E s:=by
 obtain ⟨od,J,hl⟩:=I.look
 exact PySem.W.method_fn X J (PySem.W.plainGet_of hg).1 (PySem.W.plainGet_of hg).2 hf (beq_iff_eq.mp ht) (by show (PySem.W.lookIn name od).map (·.isSome)=some false;rw [hl,hv];rfl) h
theorem set_map {ns:List Str} {Q:Unit->Shared->Prop} (X:K.In s.heap) (I:ObjM s.heap x dx C mA)
  (hs:PySem.W.findIn K (.ref C) "__setattr__"=some (some (.builtin "object.__setattr__"))) (hp:PySem.W.plainOver K C=true) (ht:PySem.W.takerIn K C name=some none) (hh:PySem.W.hasDictIn K C=true)
  (hw:PySem.Within mA ns) (hsz:ns.length<=sizeLine)
  (h:∀ h',ObjM h' x dx C (fun y=>if y=name then some v else mA y)->Heap.SameBut dx s.heap h'->Q () { s with heap:=h',toks:=s.toks+2 }) :
  wpAny (model prog w) A (setAttr (.ref x) name v) Q E s:=by
 obtain ⟨od,J,hl⟩:=I.look
 refine PySem.W.set_plain X J hs (PySem.W.osa_open (s:={ s with toks:=s.toks+1 }) (r:=none) X J hp ht fun b=>?_)
 obtain ⟨cd,hc,hd'⟩:=PySem.W.any_some hh
 have hx:s.heap.get? x=some ⟨.ref C,some dx,.plain,#[]⟩:=I.obj
 refine wpAny_bind (wpAny_pure (wpAny_bind (wpAny_bind (wpAny_loadPart hx (wpAny_bind (PySem.W.Looks.here (s:={ s with toks:=s.toks+1 }) (PySem.W.looks_clsIn X hc) ?_))))))
 rw [hd']
 refine wpAny_pure (a:=some dx) (wpAny_bind (wpAny_pure (wpAny_bind ?_)))
 refine wpAny_nsSet1 (s:={ s with toks:=s.toks+1 }) I.ns fun h' hn2 hs2=>?_
 obtain ⟨oD,esD,epD,hoD,hdD,hcD⟩:=hn2.count (PySem.Within.cons name v hw)
 refine wpAny_bind (wpAny_lookBehind hoD (by rw [hdD];exact pastItsLine_dict (Nat.le_trans hcD (by rw [List.length_cons];omega))) ?_)
 exact wpAny_pure (h _ ⟨(hs2.2 _ (Ne.symm I.ne)).trans I.obj,hn2,I.ne⟩ hs2)
theorem make_map {R:Result->Shared->Prop} {vs:List Value} {kw:List (Str × Value)} (X:K.In s.heap) (hm:PySem.W.makesIn K C=true)
  (hi:PySem.W.findIn K (.ref C) "__init__"=some (some (.ref f))) (hf:PySem.W.typeIn K (.ref f)=some (.type "function"))
  (h:codeAny (model prog w) (A.under (.builtin "type.__call__" ⟨.ref C::vs,kw⟩)) (.call (.ref f) ⟨.ref (s.heap.objs.size+1)::vs,kw⟩) (PySem.W.InitBack (s.heap.objs.size+1) R)
   { s with heap:=(s.heap.push PySem.W.emptyDict).push (PySem.W.instObj C s.heap.objs.size) }) :
  codeAny (model prog w) A (.call (.ref C) ⟨vs,kw⟩) R s:=by
 obtain ⟨hh,g,d,t,os⟩:=s
 exact PySem.W.make_core (PySem.W.makes_of X hm) (PySem.W.looks_findIn X hi) (fun self=>PySem.W.bind_fn X self hf) (.inl rfl) h
end
def putF (f:Str) (v:V):List (Str × V)->List (Str × V)
 | []=>[(f,v)]
 | (g,x)::r=>if g=f then (g,v)::r else (g,x)::putF f v r
theorem lookup_putF (f g:Str) (v:V):∀ fs:List (Str × V),(putF f v fs).lookup g=if g=f then some v else fs.lookup g
 | []=>by
  show List.lookup g [(f,v)]=_
  by_cases h:g=f
  ·have hb:(g==f)=true:=beq_iff_eq.mpr h
   simp only [List.lookup,hb,if_pos h]
  ·have hb:(g==f)=false:=beq_eq_false_iff_ne.mpr h
   simp only [List.lookup,hb,if_neg h]
 | (k,x)::r=>by
  have ih:=lookup_putF f g v r
  rw [show putF f v ((k,x)::r)=(if k=f then (k,v)::r else (k,x)::putF f v r) from rfl]
  by_cases hk:k=f
  ·rw [if_pos hk]
   by_cases h:g=k
   ·have hb:(g==k)=true:=beq_iff_eq.mpr h
    simp only [List.lookup,hb,if_pos (h.trans hk)]
   ·have hb:(g==k)=false:=beq_eq_false_iff_ne.mpr h
    simp only [List.lookup,hb,if_neg (fun e:g=f=>h (e.trans hk.symm))]
  ·rw [if_neg hk]
   by_cases h:g=k
   ·have hb:(g==k)=true:=beq_iff_eq.mpr h
    simp only [List.lookup,hb,if_neg (fun e:g=f=>hk (h.symm.trans e))]
   ·have hb:(g==k)=false:=beq_eq_false_iff_ne.mpr h
    simp only [List.lookup,hb]
    exact ih
theorem keys_putF (f:Str) (v:V):∀ fs:List (Str × V),f ∈ (putF f v fs).map (·.1)/\∀ g,g ∈ fs.map (·.1)->g ∈ (putF f v fs).map (·.1)
 | []=>⟨by simp [putF],fun g h=>by simp at h⟩
 | (k,x)::r=>by
  obtain ⟨i1,i2⟩:=keys_putF f v r
  rw [show putF f v ((k,x)::r)=(if k=f then (k,v)::r else (k,x)::putF f v r) from rfl]
  by_cases hk:k=f
  ·rw [if_pos hk]
   subst hk
   exact ⟨by simp,fun g h=>by simpa using h⟩
  ·rw [if_neg hk]
   refine ⟨?_,fun g h=>?_⟩
   ·rw [List.map_cons]
    exact List.mem_cons_of_mem _ i1
   ·rw [List.map_cons] at h ⊢
    rcases List.mem_cons.mp h with e | e
    ·exact List.mem_cons.mpr (.inl e)
    ·exact List.mem_cons_of_mem _ (i2 g e)
theorem length_putF (f:Str) (v:V):∀ fs:List (Str × V),(putF f v fs).length<=fs.length+1
 | []=>by simp [putF]
 | (k,x)::r=>by
  have ih:=length_putF f v r
  rw [show putF f v ((k,x)::r)=(if k=f then (k,v)::r else (k,x)::putF f v r) from rfl]
  by_cases hk:k=f
  ·rw [if_pos hk,List.length_cons,List.length_cons];omega
  ·rw [if_neg hk,List.length_cons,List.length_cons];omega
theorem RelO.some_of {v:V} {o:Option Value} (r:RelO (some v) o):∃ u,o=some u/\RelV v u:=by
 cases o with
 | none=>exact (show False from r).elim
 | some u=>exact ⟨u,rfl,r⟩
theorem RelO.none_of {o:Option Value} (r:RelO none o):o=none:=by
 cases o with
 | none=>rfl
 | some u=>exact (show False from r).elim
theorem handed_of {v:V} {u:Value} (r:RelV v u):PySem.W.handedIn u=true:=by
 cases v with
 | non=>cases (show u=Value.none from r);rfl
 | bl b=>cases (show u=Value.bool b from r);rfl
 | int i=>obtain ⟨t,e⟩:=(show ∃ t,u=Value.int i t from r);cases e;rfl
 | str x=>obtain ⟨t,e⟩:=(show ∃ t,u=Value.str x t from r);cases e;rfl
 | byt b=>obtain ⟨t,e⟩:=(show ∃ t,u=Value.bytes b t from r);cases e;rfl
 | flt b=>obtain ⟨t,e⟩:=(show ∃ t,u=Value.float b t from r);cases e;rfl
 | ref a=>cases (show u=Value.ref a from r);rfl
 | ty n=>cases (show u=Value.type n from r);rfl
section
variable {P:Program} {w:World} {H H':Hp} {h h':Heap} {a C dx:Addr} {fs fs':List (Str × V)}
theorem ins_get (hok:HOk P w H h) (e:H a=some (.ins C dx fs)):∃ mA,ObjM h a dx C mA/\(∀ f,RelO (fs.lookup f) (mA f))/\PySem.Within mA (fs.map (·.1))/\fs.length<=1000/\H dx=some (.own a):=by
 obtain ⟨d,z,ne,ob,mA,n,r,q⟩:=(show ObjOk P w H h a (.ins C dx fs) from hok a _ e)
 exact ⟨mA,⟨ob,n,ne⟩,r,q,z,d⟩
end
structure Cls (K:PySem.W.Frag) (C:Addr):Prop where
 pg:PySem.W.plainGet K C Str.empty=true
 hd:PySem.W.hasDictIn K C=true
 po:PySem.W.plainOver K C=true
 sa:PySem.W.findIn K (.ref C) "__setattr__"=some (some (.builtin "object.__setattr__"))
theorem Cls.get {K:PySem.W.Frag} {C:Addr} (c:Cls K C) (f:Str):PySem.W.plainGet K C f=true:=c.pg
def NoAttr (K:PySem.W.Frag) (C:Addr) (f:Str):Prop:=PySem.W.findIn K (.ref C) f=some none
theorem NoAttr.taker {K:PySem.W.Frag} {C:Addr} {f:Str} (n:NoAttr K C f):PySem.W.takerIn K C f=some none:=by
 unfold PySem.W.takerIn
 rw [show PySem.W.findIn K (.ref C) f=some none from n]
 rfl
structure Meth (K:PySem.W.Frag) (C:Addr) (m:Str) (f:Addr):Prop where
 at_:PySem.W.findIn K (.ref C) m=some (some (.ref f))
 fn:PySem.W.isFn K (.ref f)=true
 kp:PySem.W.keepIn K (.ref f)=true
section
variable {X:Cx} {pins:List (Addr × Obj)} {σ:St} {H:Hp} {s:Shared} {a C dx:Addr} {fs:List (Str × V)} {f:Str} {v:V} {A:Around} {E:Value->Shared->Prop}
theorem getattr_ok {b:Bool} {Q:Value->Shared->Prop} (I:Inv X pins σ H s) (e:H a=some (.ins C dx fs)) (c:Cls X.K C) (n:NoAttr X.K C f) (l:fs.lookup f=some v)
  (h:∀ u s',Inv X pins σ H s'->RelV v u->Q u s'):wpAny (model X.prog X.w) A (getAttr (.ref a) f b) Q E s:=by
 obtain ⟨mA,O,r,_,_,_⟩:=ins_get I.hok e
 obtain ⟨u,hu,ru⟩:=RelO.some_of (v:=v) (o:=mA f) (by rw [<-l];exact r f)
 exact get_map I.kIn O (c.get f) c.hd n hu (handed_of ru) (h u _ (I.tok _) ru)
theorem getmeth_ok {m:Str} {g:Addr} {pl:Sem Bool} {Q:Value × List Value->Shared->Prop} (I:Inv X pins σ H s) (e:H a=some (.ins C dx fs)) (c:Cls X.K C) (k:Meth X.K C m g) (l:fs.lookup m=none)
  (h:Q (.ref g,[.ref a]) s):wpAny (model X.prog X.w) A (getMethod (.ref a) m pl) Q E s:=by
 obtain ⟨mA,O,r,_,_,_⟩:=ins_get I.hok e
 have hn:mA m=none:=RelO.none_of (by rw [<-l];exact r m)
 exact get_meth I.kIn O (c.get m) k.at_ k.fn hn h
theorem setattr_ok {y:V} {u:Value} {Q:Unit->Shared->Prop} (I:Inv X pins σ H s) (e:H a=some (.ins C dx fs)) (c:Cls X.K C) (n:NoAttr X.K C f) (hl:fs.length<1000) (ry:RelV y u)
  (h:∀ s',Inv X pins σ (upd H a (.ins C dx (putF f y fs))) s'->Q () s'):wpAny (model X.prog X.w) A (setAttr (.ref a) f u) Q E s:=by
 obtain ⟨mA,O,r,wi,_,ho⟩:=ins_get I.hok e
 have hz:(fs.map (·.1)).length<=sizeLine:=by rw [List.length_map,sizeLine_eq];omega
 refine set_map I.kIn O c.sa c.po n.taker c.hd wi hz fun h' O' sb=>h _ ?_
 have hd:∃ o,h'.get? dx=some o:=let ⟨o,_,_,e',_⟩:=O'.ns;⟨o,e'⟩
 refine I.write (x:=a) (e:=dx) (by rw [e];exact True.intro) (.inr ho) (fun b q hb z=>(sb.2 b hb).trans z) hd ?_
 refine ⟨by rw [upd_ne O.ne];exact ho,?_,O.ne,O'.obj,_,O'.ns,fun g=>?_,fun g hg=>?_⟩
 ·have:=length_putF f y fs;omega
 ·show RelO ((putF f y fs).lookup g) (if g=f then some u else mA g)
  rw [lookup_putF]
  by_cases q:g=f
  ·rw [if_pos q,if_pos q];exact ry
  ·rw [if_neg q,if_neg q];exact r g
 ·by_cases q:g=f
  ·rw [q];exact (keys_putF f y fs).1
  ·refine (keys_putF f y fs).2 g (wi g fun z=>hg ?_)
   show (if g=f then some u else mA g)=none
   rw [if_neg q];exact z
theorem Inv.made (I:Inv X pins σ H s):Inv X pins σ (upd (upd H s.heap.objs.size (.own (s.heap.objs.size+1))) (s.heap.objs.size+1) (.ins C s.heap.objs.size []))
  { s with heap:=(s.heap.push PySem.W.emptyDict).push (PySem.W.instObj C s.heap.objs.size) }:=by
 have e1:(s.heap.push PySem.W.emptyDict).get? s.heap.objs.size=some PySem.W.emptyDict:=Heap.get?_push_size s.heap rfl
 have e2:((s.heap.push PySem.W.emptyDict).push (PySem.W.instObj C s.heap.objs.size)).get? (s.heap.objs.size+1)=some (PySem.W.instObj C s.heap.objs.size):=by
  have:=Heap.get?_push_size (s.heap.push PySem.W.emptyDict) (o:=PySem.W.instObj C s.heap.objs.size) rfl
  rwa [Heap.size_push] at this
 have e3:(s.heap.push PySem.W.emptyDict).Ns s.heap.objs.size (fun _=>none):=⟨PySem.W.emptyDict,#[],_,e1,rfl,(fun e he=>absurd he (by simp)),fun _=>rfl⟩
 have I1:=I.laid (a:=s.heap.objs.size) (o:=.own (s.heap.objs.size+1)) (h':=s.heap.push PySem.W.emptyDict) (t':=s.toks) (fun b u q=>Heap.get?_push_of_some _ q) (Nat.le_refl _) ⟨_,e1⟩
 refine I1.laid (a:=s.heap.objs.size+1) (o:=.ins C s.heap.objs.size []) (t':=s.toks) (fun b u q=>Heap.get?_push_of_some _ q) (Nat.le_of_eq (Heap.size_push _ _)) ?_
 have ne:s.heap.objs.size ≠ s.heap.objs.size+1:=Nat.ne_of_lt (Nat.lt_succ_self _)
 refine ⟨by rw [upd_ne ne,upd_same],Nat.zero_le _,ne,e2,fun _=>none,(Heap.Ns1.of_empty e3).at fun o q=>Heap.get?_push_of_some _ q,fun _=>True.intro,fun y hy=>absurd rfl hy⟩
theorem attr_of {prog:Program} {w:World} {env:Env} {e:Expr} {f:Str} {pos:Pos} {s:Shared} {Q:Value->Shared->Prop} (hb:attributeBase e f env (eval e env)=eval e env)
  (h:wpAny (model prog w) A (eval e env) (fun o s₁=>wpAny (model prog w) A (getAttr o f true) Q E s₁) E s):wpAny (model prog w) A (eval (.Attribute e f pos) env) Q E s:=
 Attribute_any_ h (by rw [arm_eval_Attribute,hb])
end
def tFld (K:PySem.W.Frag) (ta:TE) (f:Str):TE:=fun σ H Q=>ta σ H fun x H1=>∃ a C dx fs v,x=.ref a/\H1 a=some (.ins C dx fs)/\Cls K C/\NoAttr K C f/\fs.lookup f=some v/\Q v H1
def sFld (K:PySem.W.Frag) (ta tv:TE) (f:Str):TS:=fun D σ H=>tv σ H fun y H1=>ta σ H1 fun x H2=>∃ a C dx fs,x=.ref a/\H2 a=some (.ins C dx fs)/\Cls K C/\NoAttr K C f/\fs.length<1000/\
 D.nx σ (upd H2 a (.ins C dx (putF f y fs)))
section
variable {X:Cx} {o e value:Expr} {f:Str} {pos pos' tpos:Pos} {ta tv:TE}
theorem pe_fld (he:PE X e ta) (hb:attributeBase e f X.env (eval e X.env)=eval e X.env):PE X (.Attribute e f pos) (tFld X.K ta f):=by
 intro pins s σ H Q I h
 refine attr_of hb (thn (he pins s σ H _ I h) fun u s1 ⟨x,H1,I1,rx,a,C,dx,fs,v,ex,ea,c,n,l,q⟩=>?_)
 subst ex
 obtain rfl:u=Value.ref a:=rx
 exact getattr_ok I1 ea c n l fun u' s2 I2 ru=>⟨v,H1,I2,ru,q⟩
theorem ps_fld (ha:PE X o ta) (hv:PE X value tv) (hs:swapsWith value (some (.Attribute o f pos')) pos.line X.env=pure false):PS X (.Assign [.Attribute o f pos'] value pos) (sFld X.K ta tv f):=by
 intro pins s σ H D I h
 refine plainObj_wpAny_Assign_Attribute (thn (hv pins s σ H _ I h) fun u s1 ⟨y,H1,I1,ry,q⟩=>thn (ha pins s1 σ H1 _ I1 q) fun ov s2 ⟨x,H2,I2,rx,a,C,dx,fs,ex,ea,c,n,l,q2⟩=>?_) hs
 subst ex
 obtain rfl:ov=Value.ref a:=rx
 exact setattr_ok I2 ea c n l ry fun s3 I3=>⟨σ,_,I3,q2⟩
theorem methcall_of {pl:Sem Bool} {m:Str} {apos:Pos} {args:List Expr} {pins:List (Addr × Obj)} {s:Shared} {σ:St} {H:Hp} {Q:Value->Shared->Prop} {te:TE} (he:PE X e te) (I:Inv X pins σ H s)
  (h:te σ H fun x H1=>∃ a C dx fs g,x=.ref a/\H1 a=some (.ins C dx fs)/\Cls X.K C/\Meth X.K C m g/\fs.lookup m=none/\
   ∀ s1,Inv X pins σ H1 s1->wpAny (model X.prog X.w) X.A (callWith pos (.ref g) [.ref a] (backTo pos (starEach args X.env)) (backToKw pos (keywordEach [] X.env))) Q X.xe s1)
  (ht:eval (.Call (.Attribute e m apos) args [] pos) X.env=(do
   let ov <-eval e X.env
   standAt apos.atName
   let (f,first) <-holding [ov] (getMethod ov m pl)
   callWith pos f first (backTo pos (starEach args X.env)) (backToKw pos (keywordEach [] X.env)))) :
  wpAny (model X.prog X.w) X.A (eval (.Call (.Attribute e m apos) args [] pos) X.env) Q X.xe s:=by
 refine PySem.W.methodCall_KW (pl:=pl) (thn (he pins s σ H _ I h) fun u s1 ⟨x,H1,I1,rx,a,C,dx,fs,g,ex,ea,c,k,l,q⟩=>?_) ht
 subst ex
 obtain rfl:u=Value.ref a:=rx
 exact getmeth_ok I1 ea c k l (q s1 I1)
end
end L2
namespace L2
open PySem PySem.Spec PyProof.Rows
structure Room (k:Nat) (A:Around):Prop where
 hd:A.handled=none
 dp:A.depth+3 * k+5<recursionLimit
 un:A.units+16 * k+200<cLine
theorem Room.mono {j k:Nat} {A:Around} (r:Room k A) (h:j<=k):Room j A:=⟨r.hd,by have:=r.dp;omega,by have:=r.un;omega⟩
theorem Room.deeper {k:Nat} {A:Around} (r:Room (k+1) A) (env:Env):Room k (A.deeper env):=
 ⟨r.hd,by have:=r.dp;show A.depth+1+3 * k+5<_;omega,by have:=r.un;show A.units+3+16 * k+200<_;omega⟩
theorem make_depth {A:Around} {C:Addr} {us:List Value} {kw:List (Str × Value)}:(A.under (.builtin "type.__call__" ⟨.ref C::us,kw⟩)).depth=A.depth+1:=by
 first | rfl | simp [Around.under,Code.weight,Code.isCreation,Code.isGuard,Code.isCaller,Code.frames,Code.isFrame,guardIds]
theorem make_units {A:Around} {C:Addr} {us:List Value} {kw:List (Str × Value)}:(A.under (.builtin "type.__call__" ⟨.ref C::us,kw⟩)).units=A.units+1:=by
 first | rfl | simp [Around.under,Code.cUnits,Code.frames,Code.isFrame]
theorem Room.make {k:Nat} {A:Around} (r:Room (k+1) A) (C:Addr) (us:List Value) (kw:List (Str × Value)):Room k (A.under (.builtin "type.__call__" ⟨.ref C::us,kw⟩)):=
 ⟨r.hd,by have:=r.dp;rw [make_depth];omega,by have:=r.un;rw [make_units];omega⟩
theorem Room.depth {k:Nat} {A:Around} (r:Room k A):A.depth<recursionLimit:=by have:=r.dp;omega
theorem Room.units {k:Nat} {A:Around} (r:Room k A):A.units+64<cLine:=by have:=r.un;omega
def tNil:TA:=fun _ H Q=>Q [] H
def tCons (ta:TE) (tr:TA):TA:=fun σ H Q=>ta σ H fun x H1=>tr σ H1 fun xs H2=>Q (x::xs) H2
section
variable {X:Cx} {e:Expr} {es:List Expr} {te:TE} {t:TA} {pos:Pos}
theorem pa_nil:PA X [] tNil:=fun _ _ _ _ H Q I h=>Calls.spliced_nil ⟨[],H,I,.nil,h⟩
theorem pa_cons (ha:PE X e te) (hr:PA X es t) (hs:starEach (e::es) X.env=(false,eval e X.env)::starEach es X.env:=by rfl):PA X (e::es) (tCons te t):=by
 intro pos pins s σ H Q I h
 rw [hs]
 show wpAny _ _ (spliced ((false,eval e X.env)::backTo pos (starEach es X.env))) _ _ s
 refine Calls.spliced_cons (thn (ha pins s σ H _ I h) fun u s1 ⟨x,H1,I1,r1,q1⟩=>?_)
 exact thn (hr pos pins s1 σ H1 _ I1 q1) fun us s2 ⟨xs,H2,I2,r2,q2⟩=>⟨x::xs,H2,I2,.cons r1 r2,q2⟩
def tTup (t:TA):TE:=fun σ H Q=>t σ H fun xs H1=>xs.length<=sizeLine/\∀ p,H1 p=none->Q (.ref p) (upd H1 p (.tup xs))
def tLst (t:TA):TE:=fun σ H Q=>t σ H fun xs H1=>xs.length<=sizeLine/\∀ p,H1 p=none->Q (.ref p) (upd H1 p (.lst xs))
theorem pe_tup {x1} (h:PA X es t):PE X (.Tuple es x1 pos) (tTup t):=by
 intro pins s σ H Q I hq
 refine wpAny_Tuple_spliced (thn (h pos pins s σ H _ I hq) fun us s1 ⟨xs,H1,I1,r,z,q⟩=>⟨by rw [<-r.length];exact z,?_⟩)
 have hf:H1 s1.heap.objs.size=none:=I1.hok.fresh (Nat.le_refl _)
 refine ⟨.ref s1.heap.objs.size,upd H1 s1.heap.objs.size (.tup xs),I1.laid (t':=s1.toks) (fun b u e=>Heap.get?_push_of_some _ e) (Nat.le_refl _) ?_,rfl,q _ hf⟩
 exact ⟨z,us,r,⟨_,Heap.get?_push_size _ rfl,rfl,_,rfl⟩⟩
theorem pe_lst (h:PA X es t):PE X (.List es pos) (tLst t):=by
 intro pins s σ H Q I hq
 refine wpAny_List_spliced (thn (h pos pins s σ H _ I hq) fun us s1 ⟨xs,H1,I1,r,z,q⟩=>⟨by rw [<-r.length];exact z,?_⟩)
 have hf:H1 s1.heap.objs.size=none:=I1.hok.fresh (Nat.le_refl _)
 refine ⟨.ref s1.heap.objs.size,upd H1 s1.heap.objs.size (.lst xs),I1.laid (t':=s1.toks) (fun b u e=>Heap.get?_push_of_some _ e) (Nat.le_refl _) ?_,rfl,q _ hf⟩
 exact ⟨z,us,0,r,Heap.get?_push_size _ rfl⟩
end
abbrev Sp:=List V->Hp->VK->XK->Prop
abbrev CXT:=List Env->Hp->Shared->XK->Value->Shared->Prop
structure Env0 (P:Program) (w:World) (K:PySem.W.Frag) (mg:Str->Option Value) (base:Heap) (A:Around) (outer:List Env) (s:Shared) (H:Hp):Prop where
 frames:A.frames=some outer
 mod:Mod K mg base
 bs:∀ b o,base.get? b=some o->s.heap.get? b=some o/\H b=none
 bsz:base.objs.size<=s.heap.objs.size
 funs:s.heap.FunFrames base outer
 frf:∀ b ∈ frs outer,H b=none
 hok:HOk P w H s.heap
 bare:AllBare s.gens
def CE (outer:List Env) (P:Program) (w:World) (H:Hp) (s:Shared) (Q:VK) (u:Value) (s':Shared):Prop:=
 ∃ v H',s'.os=s.os/\AllBare s'.gens/\Un (frs outer) [] H H' s.heap s'.heap/\HOk P w H' s'.heap/\RelV v u/\Q v H'
def CR (CX:CXT) (outer:List Env) (P:Program) (w:World) (H:Hp) (s:Shared) (Q:VK) (E:XK) (r:Result) (s':Shared):Prop:=
 match r with
 | .ok (.ret u)=>CE outer P w H s Q u s'
 | .ok _=>False
 | .error e=>CX outer H s E e s'
structure FnOk (P:Program) (w:World) (K:PySem.W.Frag) (mg:Str->Option Value) (base:Heap) (CX:CXT) (k:Nat) (f:Addr) (fd:FuncData) (ps:List Str) (sp:Sp):Prop where
 len:∀ vs H Q E,sp vs H Q E->vs.length=ps.length
 run:∀ (A:Around) (outer:List Env) (s:Shared) (H:Hp) (args:Args) (us:List Value) (vs:List V) (Q:VK) (E:XK),Room k A->Env0 P w K mg base A outer s H->BindsTo s fd args (ps.zip us)->Vals vs us->sp vs H Q E ->
  codeAny (model P w) A (.call (.ref f) args) (CR CX outer P w H s Q E) s
theorem FnOk.mono {P:Program} {w:World} {K:PySem.W.Frag} {mg:Str->Option Value} {base:Heap} {CX:CXT} {j k:Nat} {f:Addr} {fd:FuncData} {ps:List Str} {sp:Sp} (F:FnOk P w K mg base CX j f fd ps sp) (h:j<=k) :
  FnOk P w K mg base CX k f fd ps sp:=⟨F.len,fun A outer s H args us vs Q E hr=>F.run A outer s H args us vs Q E (hr.mono h)⟩
theorem Env0.make {P:Program} {w:World} {K:PySem.W.Frag} {mg:Str->Option Value} {base:Heap} {A:Around} {outer:List Env} {s:Shared} {H:Hp} (e:Env0 P w K mg base A outer s H) (C:Addr) (us:List Value) (kw:List (Str × Value)) :
  Env0 P w K mg base (A.under (.builtin "type.__call__" ⟨.ref C::us,kw⟩)) outer s H:=⟨by first | exact e.frames | (simpa [Around.under,Code.envs,Code.isFrame,pushEnvs] using e.frames),e.mod,e.bs,e.bsz,e.funs,e.frf,e.hok,e.bare⟩
section
variable {X:Cx} {pins:List (Addr × Obj)} {σ:St} {H:Hp} {s s':Shared}
theorem Inv.env0 (I:Inv X pins σ H s):Env0 X.prog X.w X.K X.mg X.base X.A X.stack s H:=
 ⟨I.ok.frames,I.ok.mod,I.bs,Nat.le_trans I.ok.bsz I.sz,I.stack,I.stkFree,I.hok,I.bare⟩
theorem Inv.after {Q:VK} {u:Value} (I:Inv X pins σ H s) (h:CE X.stack X.prog X.w H s Q u s'):EP X pins σ Q u s':=by
 obtain ⟨v,H',os,bare,un,hok,r,q⟩:=h
 obtain ⟨hh,g,d,t,os'⟩:=s'
 obtain rfl:os'=s.os:=os
 exact ⟨v,H',I.call (h':=hh) (g':=g) (d':=d) (t':=t) (ch:=[]) un hok bare (fun b z=>absurd z (by simp)),r,q⟩
end
def tCall (sp:Sp) (dvs:List V) (E:XK) (t:TA):TE:=fun σ H Q=>t σ H fun vs H1=>sp (vs++dvs) H1 Q E
def tMeth (C:Addr) (m:Str) (sp:Sp) (dvs:List V) (E:XK) (ta:TE) (t:TA):TE:=fun σ H Q=>ta σ H fun x H1=>∃ a dx fs,x=.ref a/\H1 a=some (.ins C dx fs)/\fs.lookup m=none/\
 t σ H1 fun vs H2=>sp (x::(vs++dvs)) H2 Q E
def tMake (C:Addr) (sp:Sp) (dvs:List V) (E:XK) (t:TA):TE:=fun σ H Q=>t σ H fun vs H1=>∀ x dx,H1 x=none->H1 dx=none->dx ≠ x ->
 sp (.ref x::(vs++dvs)) (upd (upd H1 dx (.own x)) x (.ins C dx [])) (fun v H2=>v=.non/\Q (.ref x) H2) E
def Binds (K:PySem.W.Frag) (fd:FuncData) (ps:List Str) (ds:List Value):Prop:=
 ∀ (s:Shared) (us:List Value),K.In s.heap->(us++ds).length=ps.length->BindsTo s fd ⟨us,[]⟩ (ps.zip (us++ds))
theorem Binds.all {K:PySem.W.Frag} {fd:FuncData} {ps:List Str} (h:∀ us:List Value,us.length=ps.length->bindArgs fd ⟨us,[]⟩=pure (ps.zip us)):Binds K fd ps []:=fun s us _ hl=>by
 rw [List.append_nil] at hl ⊢
 exact .of_eq (h us hl)
def Passes (CX:CXT) (X:Cx) (E:XK):Prop:=∀ (pins:List (Addr × Obj)) (σ:St) (H:Hp) (s:Shared) (e:Value) (s':Shared),Inv X pins σ H s->CX X.stack H s E e s'->X.xe e s'
section
variable {X:Cx} {CX:CXT} {k:Nat} {f C:Addr} {fd:FuncData} {ps:List Str} {sp:Sp} {dvs:List V} {ds:List Value} {E:XK} {x m:Str} {p pos apos:Pos} {e o:Expr} {es:List Expr} {ta:TE} {t:TA}
theorem run_fn {pins:List (Addr × Obj)} {σ:St} {H:Hp} {s:Shared} {Q:VK} {us:List Value} {vs:List V} (F:FnOk X.prog X.w X.K X.mg X.base CX k f fd ps sp) (hr:Room k X.A) (hb:Binds X.K fd ps ds) (hd:Vals dvs ds) (hx:Passes CX X E)
  (I:Inv X pins σ H s) (r:Vals vs us) (h:sp (vs++dvs) H Q E):wpAny (model X.prog X.w) X.A (call (.ref f) us) (EP X pins σ Q) X.xe s:=by
 have r2:Vals (vs++dvs) (us++ds):=r.append hd
 have hl:(us++ds).length=ps.length:=by rw [<-r2.length];exact F.len _ _ _ _ h
 refine wpAny_call (codeAny_mono (F.run X.A X.stack s H ⟨us,[]⟩ (us++ds) (vs++dvs) Q E hr I.env0 (hb s us I.kIn hl) r2 h) fun r s' hq=>?_)
 cases r with
 | error e=>exact hx pins σ H s e s' I hq
 | ok fl=>
  cases fl with
  | ret u=>exact I.after hq
  | next=>exact False.elim hq
  | brk=>exact False.elim hq
  | cont=>exact False.elim hq
theorem pe_call (F:FnOk X.prog X.w X.K X.mg X.base CX k f fd ps sp) (hr:Room k X.A) (hg:Gl X x) (hm:X.mg x=some (.ref f)) (hk:PySem.W.keepIn X.K (.ref f)=true) (hb:Binds X.K fd ps ds) (hd:Vals dvs ds) (hx:Passes CX X E)
  (ha:PA X (e::es) t) (hdb:(x==("__debug__":Str))=false:=by decide) (he:starEach (e::es) X.env=(false,eval e X.env)::starEach es X.env:=by rfl) (hpl:(backTo pos (starEach es X.env)).any (·.1)=false:=by rfl) :
  PE X (.Call (.Name x p) (e::es) [] pos) (tCall sp dvs E t):=by
 intro pins s σ H Q I h
 refine wpAny_Call_Name_kw (ld_glob I hg hm ?_ hdb)
 refine PySem.W.callWith_K (h₀:=X.base) I.ok.mod.kin hk (thn (ha pos pins s σ H _ I h) fun us s1 ⟨vs,H1,I1,r,q⟩=>⟨I1.kIn,?_⟩) he hpl
 exact run_fn F hr hb hd hx I1 r q
theorem pe_meth {pl:Sem Bool} (he:PE X o ta) (c:Cls X.K C) (hm:Meth X.K C m f) (F:FnOk X.prog X.w X.K X.mg X.base CX k f fd ps sp) (hr:Room k X.A) (hb:Binds X.K fd ps ds) (hd:Vals dvs ds) (hx:Passes CX X E) (ha:PA X (e::es) t)
  (hst:starEach (e::es) X.env=(false,eval e X.env)::starEach es X.env:=by rfl) (hpl:(backTo pos (starEach es X.env)).any (·.1)=false:=by rfl)
  (ht:eval (.Call (.Attribute o m apos) (e::es) [] pos) X.env=(do
   let ov <-eval o X.env
   standAt apos.atName
   let (f,first) <-holding [ov] (getMethod ov m pl)
   callWith pos f first (backTo pos (starEach (e::es) X.env)) (backToKw pos (keywordEach [] X.env))):=by rfl) :
  PE X (.Call (.Attribute o m apos) (e::es) [] pos) (tMeth C m sp dvs E ta t):=by
 intro pins s σ H Q I h
 refine PySem.W.methodCall_KW (pl:=pl) (thn (he pins s σ H _ I h) fun u s1 ⟨x,H1,I1,rx,a,dx,fs,ex,ea,l,q⟩=>?_) ht
 subst ex
 obtain rfl:u=Value.ref a:=rx
 refine getmeth_ok I1 ea c hm l ?_
 refine PySem.W.callWith_K (first:=[.ref a]) (h₀:=X.base) I.ok.mod.kin hm.kp (thn (ha pos pins s1 σ H1 _ I1 q) fun us s2 ⟨vs,H2,I2,r,q2⟩=>⟨I2.kIn,?_⟩) hst hpl
 exact run_fn (us:=.ref a::us) (vs:=.ref a::vs) F hr hb hd hx I2 (.cons rfl r) q2
theorem pe_meth0 {pl:Sem Bool} (he:PE X o ta) (c:Cls X.K C) (hm:Meth X.K C m f) (F:FnOk X.prog X.w X.K X.mg X.base CX k f fd ps sp) (hr:Room k X.A) (hb:Binds X.K fd ps ds) (hd:Vals dvs ds) (hx:Passes CX X E)
  (ht:eval (.Call (.Attribute o m apos) [] [] pos) X.env=(do
   let ov <-eval o X.env
   standAt apos.atName
   let (f,first) <-holding [ov] (getMethod ov m pl)
   callWith pos f first (backTo pos (starEach [] X.env)) (backToKw pos (keywordEach [] X.env))):=by rfl) :
  PE X (.Call (.Attribute o m apos) [] [] pos) (tMeth C m sp dvs E ta tNil):=by
 intro pins s σ H Q I h
 refine PySem.W.methodCall_KW (pl:=pl) (thn (he pins s σ H _ I h) fun u s1 ⟨x,H1,I1,rx,a,dx,fs,ex,ea,l,q⟩=>?_) ht
 subst ex
 obtain rfl:u=Value.ref a:=rx
 refine getmeth_ok I1 ea c hm l ?_
 exact PySem.W.callWith_K0 (first:=[.ref a]) I1.kIn hm.kp (run_fn (us:=[.ref a]) (vs:=[.ref a]) F hr hb hd hx I1 (.cons rfl .nil) q)
structure Mk (K:PySem.W.Frag) (C f:Addr):Prop where
 makes:PySem.W.makesIn K C=true
 init:PySem.W.findIn K (.ref C) "__init__"=some (some (.ref f))
 fn:PySem.W.isFn K (.ref f)=true
 kp:PySem.W.keepIn K (.ref C)=true
theorem run_make {pins:List (Addr × Obj)} {σ:St} {H:Hp} {s:Shared} {Q:VK} {us:List Value} {vs:List V} (M:Mk X.K C f) (F:FnOk X.prog X.w X.K X.mg X.base CX k f fd ps sp) (hr:Room (k+1) X.A) (hb:Binds X.K fd ps ds) (hd:Vals dvs ds)
  (hx:Passes CX X E) (I:Inv X pins σ H s) (r:Vals vs us)
  (h:∀ x dx,H x=none->H dx=none->dx ≠ x->sp (.ref x::(vs++dvs)) (upd (upd H dx (.own x)) x (.ins C dx [])) (fun v H2=>v=.non/\Q (.ref x) H2) E) :
  wpAny (model X.prog X.w) X.A (call (.ref C) us) (EP X pins σ Q) X.xe s:=by
 have hq:=h (s.heap.objs.size+1) s.heap.objs.size (I.hok.fresh (Nat.le_succ _)) (I.hok.fresh (Nat.le_refl _)) (Nat.ne_of_lt (Nat.lt_succ_self _))
 have I2:=Inv.made (C:=C) I
 have r2:Vals (V.ref (s.heap.objs.size+1)::(vs++dvs)) (Value.ref (s.heap.objs.size+1)::(us++ds)):=.cons rfl (r.append hd)
 have hl:(Value.ref (s.heap.objs.size+1)::us++ds).length=ps.length:=by
  have e:=r2.length
  rw [F.len _ _ _ _ hq] at e
  exact e.symm
 refine wpAny_call (make_map (f:=f) I.kIn M.makes M.init (beq_iff_eq.mp M.fn) (codeAny_mono (F.run _ X.stack _ _ ⟨Value.ref (s.heap.objs.size+1)::us,[]⟩ (Value.ref (s.heap.objs.size+1)::(us++ds)) _ _ E (hr.make C us [])
  (I2.env0.make C us []) (hb _ (Value.ref (s.heap.objs.size+1)::us) I2.kIn hl) r2 hq) fun r s' hq'=>?_))
 cases r with
 | error e=>exact hx pins σ _ _ e s' I2 hq'
 | ok fl=>
  cases fl with
  | ret u=>
   obtain ⟨v,H',I3,rv,ev,q3⟩:=I2.after hq'
   subst ev
   exact ⟨rv,⟨V.ref (s.heap.objs.size+1),H',I3,rfl,q3⟩⟩
  | next=>exact False.elim hq'
  | brk=>exact False.elim hq'
  | cont=>exact False.elim hq'
theorem pe_make (M:Mk X.K C f) (F:FnOk X.prog X.w X.K X.mg X.base CX k f fd ps sp) (hr:Room (k+1) X.A) (hg:Gl X x) (hm:X.mg x=some (.ref C)) (hb:Binds X.K fd ps ds) (hd:Vals dvs ds) (hx:Passes CX X E)
  (ha:PA X (e::es) t) (hdb:(x==("__debug__":Str))=false:=by decide) (he:starEach (e::es) X.env=(false,eval e X.env)::starEach es X.env:=by rfl) (hpl:(backTo pos (starEach es X.env)).any (·.1)=false:=by rfl) :
  PE X (.Call (.Name x p) (e::es) [] pos) (tMake C sp dvs E t):=by
 intro pins s σ H Q I h
 refine wpAny_Call_Name_kw (ld_glob I hg hm ?_ hdb)
 refine PySem.W.callWith_K (h₀:=X.base) I.ok.mod.kin M.kp (thn (ha pos pins s σ H _ I h) fun us s1 ⟨vs,H1,I1,r,q⟩=>⟨I1.kIn,?_⟩) he hpl
 exact run_make M F hr hb hd hx I1 r q
theorem pe_make0 (M:Mk X.K C f) (F:FnOk X.prog X.w X.K X.mg X.base CX k f fd ps sp) (hr:Room (k+1) X.A) (hg:Gl X x) (hm:X.mg x=some (.ref C)) (hb:Binds X.K fd ps ds) (hd:Vals dvs ds) (hx:Passes CX X E)
  (hdb:(x==("__debug__":Str))=false:=by decide):PE X (.Call (.Name x p) [] [] pos) (tMake C sp dvs E tNil):=by
 intro pins s σ H Q I h
 refine wpAny_Call_Name_kw (ld_glob I hg hm ?_ hdb)
 exact PySem.W.callWith_K0 I.kIn M.kp (run_make (us:=[]) M F hr hb hd hx I .nil h)
end
structure FnScope (N P:List Str) (sc:Scope):Prop where
 kind:sc.kind=.function
 co:sc.isCoroutine=false
 gen:sc.isGenerator=false
 nd:N.Nodup
 pre:N.take P.length=P
 par:∀ x ∈ P,sc.names.lookup x=some .local\/sc.names.lookup x=some .cell
 nofree:∀ y ∈ sc.names,y.2 ≠ .free
theorem bindL_out {kindOf:Str->Option NameKind} {x:Str}:∀ {binds:List (Str × Value)} {m:Str->Option Value},(∀ v,(x,v) ∉ binds)->bindL kindOf binds m x=m x
 | [],_,_=>rfl
 | (n,v)::r,m,h=>by
  unfold bindL
  rw [bindL_out fun w hw=>h w (List.mem_cons_of_mem _ hw)]
  split
  ·have:x ≠ n:=by rintro rfl;exact h v List.mem_cons_self
   simp [this]
  ·rfl
theorem bindC_out {kindOf:Str->Option NameKind} {x:Str}:∀ {binds:List (Str × Value)} {m:Str->Option Value},(∀ v,(x,v) ∉ binds)->bindC kindOf binds m x=m x
 | [],_,_=>rfl
 | (n,v)::r,m,h=>by
  unfold bindC
  rw [bindC_out fun w hw=>h w (List.mem_cons_of_mem _ hw)]
  split
  ·rfl
  ·have:x ≠ n:=by rintro rfl;exact h v List.mem_cons_self
   simp [this]
theorem bindL_get {kindOf:Str->Option NameKind} {x:Str} {v:Value}:∀ {P:List Str} {vs:List Value} {i:Nat} {m:Str->Option Value},P.Nodup->P[i]?=some x->vs[i]?=some v->kindOf x=some .local ->
  bindL kindOf (P.zip vs) m x=some v
 | [],_,_,_,_,h,_,_=>by simp at h
 | _::_,[],_,_,_,_,h,_=>by simp at h
 | p::P,w::vs,0,m,nd,h1,h2,hk=>by
  simp at h1 h2;subst h1;subst h2
  show bindL kindOf ((p,w)::P.zip vs) m p=_
  unfold bindL
  rw [bindL_out fun v hv=>(List.nodup_cons.mp nd).1 (List.of_mem_zip hv).1,if_pos hk]
  simp
 | p::P,w::vs,i+1,m,nd,h1,h2,hk=>by
  show bindL kindOf ((p,w)::P.zip vs) m x=_
  unfold bindL
  exact bindL_get (i:=i) (List.nodup_cons.mp nd).2 (by simpa using h1) (by simpa using h2) hk
theorem bindC_get {kindOf:Str->Option NameKind} {x:Str} {v:Value}:∀ {P:List Str} {vs:List Value} {i:Nat} {m:Str->Option Value},P.Nodup->P[i]?=some x->vs[i]?=some v->kindOf x ≠ some .local ->
  bindC kindOf (P.zip vs) m x=some v
 | [],_,_,_,_,h,_,_=>by simp at h
 | _::_,[],_,_,_,_,h,_=>by simp at h
 | p::P,w::vs,0,m,nd,h1,h2,hk=>by
  simp at h1 h2;subst h1;subst h2
  show bindC kindOf ((p,w)::P.zip vs) m p=_
  unfold bindC
  rw [bindC_out fun v hv=>(List.nodup_cons.mp nd).1 (List.of_mem_zip hv).1,if_neg hk]
  simp
 | p::P,w::vs,i+1,m,nd,h1,h2,hk=>by
  show bindC kindOf ((p,w)::P.zip vs) m x=_
  unfold bindC
  exact bindC_get (i:=i) (List.nodup_cons.mp nd).2 (by simpa using h1) (by simpa using h2) hk
def start (N:List Str) (vs:List V):St:=vs.map some++List.replicate (N.length - vs.length) none
def cxOf (CX:CXT) (P:Program) (w:World) (K:PySem.W.Frag) (mg:Str->Option Value) (base:Heap) (N:List Str) (qual:Str) (scope:Scope) (f:Addr) (cd:Value) (A:Around) (outer:List Env) (s:Shared) (H:Hp) (E:XK):Cx where
 prog:=P
 w:=w
 K:=K
 mg:=mg
 base:=base
 A:=A.deeper (envOfC qual scope s.heap.objs.size f cd)
 N:=N
 s_0:=s
 H_0:=H
 env:=envOfC qual scope s.heap.objs.size f cd
 outer:=outer
 stack:=envOfC qual scope s.heap.objs.size f cd::outer
 ex:=[]
 calm:=true
 fn:=fun _=>true
 pn:=[]
 xe:=fun e s'=>wpAny (model P w) (A.deeper (envOfC qual scope s.heap.objs.size f cd)) (leaving (envOfC qual scope s.heap.objs.size f cd) e) (fun _ s''=>CX outer H s E e s'') (fun e' s''=>CX outer H s E e' s'') s'
theorem cell_has {sc:Scope} {n:Nat} {x:Str} (h:sc.names.lookup x=some .cell):∃ c,(cellsFrom n sc.names []).lookup x=some c:=by
 have q:=PySem.W.cellsFrom_some sc.names n [] (.inl h)
 exact Option.isSome_iff_exists.mp q
theorem inv_start {CX:CXT} {P:Program} {w:World} {K:PySem.W.Frag} {mg:Str->Option Value} {base:Heap} {N ps:List Str} {qual:Str} {scope:Scope} {f:Addr} {cd:Value} {A:Around} {outer:List Env} {s s1:Shared} {H:Hp} {E:XK} {us:List Value} {vs:List V}
  (S:FnScope N ps scope) (hd:A.handled=none) (e0:Env0 P w K mg base A outer s H) (hl:vs.length=ps.length) (r:Vals vs us)
  (x:InCallC s s.heap.objs.size (bindL (envOfC qual scope s.heap.objs.size f cd).kindOf (ps.zip us) fun _=>none) (cellsFrom (s.heap.objs.size+1) scope.names []) (bindC (envOfC qual scope s.heap.objs.size f cd).kindOf (ps.zip us) fun _=>none) s1) :
  Inv (cxOf CX P w K mg base N qual scope f cd A outer s H E) [] (start N vs) H s1:=by
 have hpl:ps.length<=N.length:=by have:=congrArg List.length S.pre;rw [List.length_take] at this;omega
 obtain ⟨h1,tk,rfl,hk⟩:=x.done
 have noA:∀ b:Addr,b ∉ (cxOf CX P w K mg base N qual scope f cd A outer s H E).ex:=fun b z=>absurd (show b ∈ ([]:List Addr) from z) (by simp)
 refine ⟨⟨e0.mod,S.kind,rfl,rfl,Nat.le_refl _,fun y z c h1 h2=>?_,fun y hy=>?_,fun y c _ h=>?_,fun _=>hd,Around.frames_deeper e0.frames,.inr ⟨rfl,rfl⟩,fun b z=>absurd z (noA b),e0.bs,e0.bsz,fun b _ _=>noA b,fun b z=>absurd z (noA b),e0.funs,e0.frf⟩,
  rfl,e0.bare,Un.kept hk,⟨_,x.toInCall.ns,fun i y v h1 h2 h3=>?_⟩,fun y c h=>⟨_,x.cell y c h⟩,e0.hok.fresh (Nat.le_refl _),fun y c h=>?_,fun p hp=>absurd (show p ∈ ([]:List (Addr × Obj)) from hp) (by simp),e0.hok.kept hk,?_⟩
 ·exact name_of_addr x.apart (PySem.mem_of_lookup h1) (PySem.mem_of_lookup h2)
 ·have hy:scope.names.lookup y=some .cell\/scope.names.lookup y=some .free:=hy
  rcases hy with hy | hy
  ·exact cell_has hy
  ·exact absurd rfl (S.nofree _ (PySem.mem_of_lookup hy))
 ·exact Nat.le_of_lt (x.above y c (PySem.mem_of_lookup h))
 ·have hi:i<vs.length:=by
   unfold start at h2
   by_cases hi:i<vs.length
   ·exact hi
   ·rw [List.getElem?_append_right (by simpa using hi)] at h2
    rw [List.getElem?_replicate] at h2
    split at h2 <;> cases h2
  have ha:vs[i]?=some v:=by
   unfold start at h2
   rw [List.getElem?_append_left (by simpa using hi),List.getElem?_map] at h2
   cases e:vs[i]? with
   | none=>rw [e] at h2;cases h2
   | some a=>rw [e] at h2;cases h2;rfl
  obtain ⟨u,hu,rv⟩:=r.get ha
  have hp:ps[i]?=some y:=by
   rw [<-S.pre,List.getElem?_take_of_lt (by omega)];exact h1
  have ndP:ps.Nodup:=by rw [<-S.pre];exact S.nd.sublist (List.take_sublist _ _)
  refine ⟨u,rv,?_⟩
  rcases S.par y (List.mem_of_getElem? hp) with k | k
  ·exact .inl ⟨k,bindL_get ndP hp hu k⟩
  ·obtain ⟨c,e⟩:=cell_has (n:=s.heap.objs.size+1) k
   refine .inr ⟨.inl k,c,e,?_⟩
   have q:=x.cell y c e
   rw [bindC_get ndP hp hu (by show scope.names.lookup y ≠ _;rw [k];decide)] at q
   exact q
 ·exact e0.hok.fresh (Nat.le_of_lt (x.above y c (PySem.mem_of_lookup h)))
 ·unfold start
  show _=N.length
  rw [List.length_append,List.length_map,List.length_replicate]
  omega
theorem fn_of {CX:CXT} {P:Program} {w:World} {K:PySem.W.Frag} {mg:Str->Option Value} {base:Heap} {k:Nat} {f:Addr} {name qual:Str} {params:Arguments} {body:List Stmt} {scope:Scope} {dV kV doc pm cdv ct oc:Value} {an od:Option Addr}
  {osl:Array (Option Value)} {N ps:List Str} {sp:Sp} (lk:K.lookup f=some ⟨oc,od,.func (PySem.W.fnOf name qual params body scope dV kV doc pm an cdv ct),osl⟩) (hcd:PySem.W.codeIn K cdv qual=true) (S:FnScope N ps scope)
  (len:∀ vs H Q E,sp vs H Q E->vs.length=ps.length)
  (hbody:∀ (A:Around) (outer:List Env) (s:Shared) (H:Hp) (vs:List V) (Q:VK) (E:XK),Room k (A.deeper (envOfC qual scope s.heap.objs.size f cdv))->sp vs H Q E ->
   ∃ t,PSs (cxOf CX P w K mg base N qual scope f cdv A outer s H E) body t/\t { nx:=fun _ H'=>Q .non H',rt:=Q } (start N vs) H) :
  FnOk P w K mg base CX (k+1) f (PySem.W.fnOf name qual params body scope dV kV doc pm an cdv ct) ps sp:=by
 refine ⟨len,fun A outer s H args us vs Q E hr e0 hb r hsp=>?_⟩
 have hl:=len _ _ _ _ hsp
 have KX:K.In s.heap:=e0.mod.kin.keeps fun b o e=>(e0.bs b o e).1
 have lim:s.heap.NoLimit:=e0.mod.nolimit.keeps fun b o e=>(e0.bs b o e).1
 have hkind:∀ y ∈ ps.zip us,scope.names.lookup y.1=some .local\/(scope.names.lookup y.1=some .cell/\((cellsFrom (s.heap.objs.size+1) scope.names []).lookup y.1).isSome=true):=fun ⟨n,v⟩ hy=>by
  rcases S.par n (List.of_mem_zip hy).1 with q | q
  ·exact .inl q
  ·exact .inr ⟨q,PySem.W.cellsFrom_some _ _ _ (.inl q)⟩
 refine codeAny_call_function hr.depth (KX _ _ lk) rfl S.co S.gen rfl (PySem.W.codeRec_of KX hcd) (hb _ _ _ _ ?_)
 refine wpAny_newFunctionEnv_cells S.kind hkind fun env he s1 x=>?_
 subst he
 refine ⟨lim.keeps x.toInCall.keep,codeAny_func ?_⟩
 obtain ⟨t,ht,hq⟩:=hbody A outer s H vs Q E (hr.deeper _) hsp
 have I:Inv (cxOf CX P w K mg base N qual scope f cdv A outer s H E) [] (start N vs) H s1:=inv_start S hr.hd e0 hl r x
 refine wpAny_mono (ht [] s1 (start N vs) H _ I hq) (fun fl s' hs=>?_) fun e s' hs=>hs
 have fin:∀ {σ':St} {H':Hp} {v:V} {u:Value},Inv (cxOf CX P w K mg base N qual scope f cdv A outer s H E) [] σ' H' s'->RelV v u->Q v H'->CE outer P w H s Q u s':=
  fun {σ' H' v u} J rv q=>⟨v,H',J.os,J.bare,J.base,J.hok,rv,q⟩
 cases fl with
 | ret u=>
  obtain ⟨v,σ',H',J,rv,q⟩:=hs
  exact fin J rv q
 | next=>
  obtain ⟨σ',H',J,q⟩:=hs
  exact fin (v:=V.non) (u:=Value.none) J rfl q
 | brk=>
  obtain ⟨_,_,_,q⟩:=hs
  exact False.elim q
 | cont=>
  obtain ⟨_,_,_,q⟩:=hs
  exact False.elim q
end L2
namespace L2
open PySem PySem.Spec PyProof.Rows
section
variable {X:Cx} {x:Str} {p pos:Pos} {e:Expr} {es:List Expr} {t:TA} {id T:String} {r:List V->Hp->VK->Prop}
def tCB (r:List V->Hp->VK->Prop) (t:TA):TE:=fun σ H Q=>t σ H fun vs H1=>r vs H1 Q
theorem pe_callB (hc:CallR X (.builtin id) r) (hg:Gl X x) (hm:X.mg x=none) (hv:bootBuiltins x=some (.builtin id)) (ha:PA X (e::es) t) (hn:x ≠ "__name__":=by decide) (hdb:(x==("__debug__":Str))=false:=by decide)
  (he:starEach (e::es) X.env=(false,eval e X.env)::starEach es X.env:=by rfl) (hpl:(backTo pos (starEach es X.env)).any (·.1)=false:=by rfl):PE X (.Call (.Name x p) (e::es) [] pos) (tCB r t):=by
 intro pins s σ H Q I h
 refine wpAny_Call_Name_kw (ld_blt I hg hm hv ?_ hn hdb)
 exact PyProof.Rows.callWith_builtin1 (thn (ha pos pins s σ H _ I h) fun us s1 ⟨vs,H1,I1,r1,q1⟩=>hc pins s1 σ H1 vs us Q I1 r1 q1) he hpl
theorem pe_callTy (hc:CallR X (.type T) r) (hg:Gl X x) (hm:X.mg x=none) (hv:bootBuiltins x=some (.type T)) (ha:PA X (e::es) t) (hn:x ≠ "__name__":=by decide) (hdb:(x==("__debug__":Str))=false:=by decide)
  (he:starEach (e::es) X.env=(false,eval e X.env)::starEach es X.env:=by rfl) (hpl:(backTo pos (starEach es X.env)).any (·.1)=false:=by rfl):PE X (.Call (.Name x p) (e::es) [] pos) (tCB r t):=by
 intro pins s σ H Q I h
 refine wpAny_Call_Name_kw (ld_blt I hg hm hv ?_ hn hdb)
 exact PyProof.Rows.callWith_type1 (thn (ha pos pins s σ H _ I h) fun us s1 ⟨vs,H1,I1,r1,q1⟩=>hc pins s1 σ H1 vs us Q I1 r1 q1) he hpl
end
end L2
namespace HT
open PySem PyProof.Rows
section
variable {prog:Program} {w:World} {A:Around} {E:Value->Shared->Prop} {s:Shared}
def sIx (n d:Nat):Option Int->Nat
 | none=>d
 | some v=>if v<0 then (v+(n:Int)).toNat else min v.toNat n
theorem sIx_none (n d:Nat):sIx n d none=d:=rfl
theorem sIx_nat (n d k:Nat):sIx n d (some (k:Int))=min k n:=by
 show (if (k:Int)<0 then ((k:Int)+(n:Int)).toNat else min (k:Int).toNat n)=min k n
 rw [if_neg (by omega),Int.toNat_natCast]
end
end HT
namespace L2
open PySem PySem.Spec PyProof.Rows
abbrev TO:=St->Hp->(Option Int->Hp->Prop)->Prop
def PO (X:Cx) (e:Option Expr) (t:TO):Prop:=
 ∀ (pins:List (Addr × Obj)) (s:Shared) (σ:St) (H:Hp) (Q:Option Int->Hp->Prop),Inv X pins σ H s->t σ H Q ->
  wpAny (model X.prog X.w) X.A (evalPart e X.env) (fun u s'=>∃ o H',Inv X pins σ H' s'/\IsPart u o/\Q o H') X.xe s
def tNoPart:TO:=fun _ H Q=>Q none H
def tPart (t:TE):TO:=fun σ H Q=>t σ H fun x H1=>∃ i,x=.int i/\Q (some i) H1
theorem intsAre_of {ns:List Int}:∀ {us:List Value},Vals (ns.map V.int) us->IntsAre us ns:=by
 induction ns with
 | nil=>intro us r;rw [List.map_nil] at r;cases r;exact .nil
 | cons n ns ih=>
  intro us r
  rw [List.map_cons] at r
  cases r with
  | cons r1 r2=>
   obtain ⟨t,e⟩:=r1
   subst e
   exact .cons n t (ih r2)
section
variable {X:Cx} {e:Expr} {te:TE} {lo hi:Option Expr} {tl th:TO} {pos p2:Pos}
theorem po_none:PO X none tNoPart:=by
 intro pins s σ H Q I h
 rw [evalPart_none]
 exact wpAny_pure ⟨none,H,I,.none,h⟩
theorem po_some (h:PE X e te):PO X (some e) (tPart te):=by
 intro pins s σ H Q I hw
 rw [evalPart_some]
 refine thn (h pins s σ H _ I hw) fun u s1 ⟨x,H1,I1,r1,q1⟩=>?_
 obtain ⟨i,rfl,q⟩:=q1
 obtain ⟨t,rfl⟩:=r1
 exact ⟨some i,H1,I1,.int i t,q⟩
def SlR (X:Cx) (r:V->Option Int->Option Int->Hp->VK->Prop):Prop:=
 ∀ (pins:List (Addr × Obj)) (s:Shared) (σ:St) (H:Hp) (x:V) (v vl vu:Value) (lo hi:Option Int) (sl:Addr) (Q:VK),Inv X pins σ H s->RelV x v->s.heap.IsSliceOf sl vl vu .none->IsPart vl lo->IsPart vu hi->r x lo hi H Q ->
  ∃ T id,typeLookup (.type T) "__getitem__"=pure (some (.builtin id))/\s.TypeIs v T/\wpAny (model X.prog X.w) X.A (getItem v (.ref sl)) (EP X pins σ Q) X.xe s
def tSl (r:V->Option Int->Option Int->Hp->VK->Prop) (te:TE) (tl th:TO):TE:=fun σ H Q=>te σ H fun x H1=>tl σ H1 fun l H2=>th σ H2 fun u H3=>r x l u H3 Q
theorem pe_slice {r:V->Option Int->Option Int->Hp->VK->Prop} (hr:SlR X r) (he:PE X e te) (hl:PO X lo tl) (hu:PO X hi th):PE X (.Subscript e (.Slice lo hi none p2) pos) (tSl r te tl th):=by
 intro pins s σ H Q I h
 refine Subscript_ (thn (he pins s σ H _ I h) fun v s1 ⟨x,H1,I1,r1,q1⟩=>?_)
 refine wpAny_Slice (thn (hl pins s1 σ H1 _ I1 q1) fun vl s2 ⟨l,H2,I2,pl,q2⟩=>thn (hu pins s2 σ H2 _ I2 q2) fun vu s3 ⟨u,H3,I3,pu,q3⟩=>?_)
 rw [evalPart_none]
 refine wpAny_pure ?_
 have I4:Inv X pins σ H3 { s3 with heap:=s3.heap.push { cls:=.type "slice",data:=.fields #[vl,vu,.none] } }:=I3.kept (t':=s3.toks) fun b ob q=>Heap.get?_push_of_some _ q
 obtain ⟨T,id,hT,ht,hg⟩:=hr pins { s3 with heap:=s3.heap.push { cls:=.type "slice",data:=.fields #[vl,vu,.none] } } σ H3 x v vl vu l u s3.heap.objs.size Q I4 r1 (Heap.IsSliceOf.new ..) pl pu q3
 show wpAny (model X.prog X.w) X.A (subscriptTail e (.Slice lo hi none p2) v (.ref s3.heap.objs.size)) (EP X pins σ Q) X.xe { s3 with heap:=s3.heap.push { cls:=.type "slice",data:=.fields #[vl,vu,.none] } }
 exact tail_any (ops:=[.ref s3.heap.objs.size,v]) ht hT hg (by with_unfolding_all rfl)
def cutV (xs:List V) (lo hi:Option Int):List V:=(xs.drop (HT.sIx xs.length 0 lo)).take (HT.sIx xs.length xs.length hi - HT.sIx xs.length 0 lo)
theorem cutV_length (xs:List V) (lo hi:Option Int):(cutV xs lo hi).length<=xs.length:=by
 unfold cutV
 rw [List.length_take,List.length_drop]
 omega
end
end L2
namespace L2
open PySem PySem.Spec PyProof.Rows
def ixN (n:Nat) (i:Int):Option Nat:=if 0<=i then (if i<n then some i.toNat else none) else if -(n:Int)<=i then some (i+n).toNat else none
def atI {α:Type} (xs:List α) (i:Int):Option α:=(ixN xs.length i).bind fun j=>xs[j]?
theorem ixN_seq {n:Nat} {i:Int} {j:Nat} (h:ixN n i=some j):seqIndex? i n=some j/\j<n/\-(n:Int)<=i/\i<n:=by
 unfold ixN at h
 by_cases h0:0<=i
 ·rw [if_pos h0] at h
  by_cases h1:i<n
  ·rw [if_pos h1] at h
   have e:i.toNat=j:=Option.some.inj h
   exact ⟨by rw [seqIndex_of h0 h1,e],by omega,by omega,h1⟩
  ·rw [if_neg h1] at h;cases h
 ·rw [if_neg h0] at h
  by_cases h1:-(n:Int)<=i
  ·rw [if_pos h1] at h
   have e:(i+n).toNat=j:=Option.some.inj h
   exact ⟨by rw [seqIndex_neg (by omega) h1,e],by omega,h1,by omega⟩
  ·rw [if_neg h1] at h;cases h
theorem atI_get {α:Type} {xs:List α} {i:Int} {v:α} (h:atI xs i=some v):∃ j,seqIndex? i xs.length=some j/\xs[j]?=some v/\j<xs.length/\-(xs.length:Int)<=i/\i<xs.length:=by
 unfold atI at h
 cases e:ixN xs.length i with
 | none=>rw [e] at h;cases h
 | some j=>
  rw [e] at h
  obtain ⟨h1,h2,h3,h4⟩:=ixN_seq e
  exact ⟨j,h1,h,h2,h3,h4⟩
theorem atI_nat {α:Type} {xs:List α} {j:Nat} {v:α} (h:xs[j]?=some v):atI xs (j:Int)=some v:=by
 have hj:j<xs.length:=(List.getElem?_eq_some_iff.mp h).1
 have e:ixN xs.length (j:Int)=some j:=by
  unfold ixN
  rw [if_pos (by omega),if_pos (by omega)];simp
 unfold atI;rw [e];exact h
def PlainIx (b:Expr):Prop:=∀ o i,subscripted b false o i=operate [o,i] (getItem o i)
def IxR (X:Cx) (r:R2):Prop:=
 ∀ (value slice:Expr) (pins:List (Addr × Obj)) (s:Shared) (σ:St) (H:Hp) (x y:V) (v u:Value) (Q:VK),Inv X pins σ H s->RelV x v->RelV y u->r x y H Q ->
  subscripted slice false v u=operate [v,u] (getItem v u)->wpAny (model X.prog X.w) X.A (subscriptTail value slice v u) (EP X pins σ Q) X.xe s
def MtR (X:Cx) (id:String) (r:V->List V->Hp->VK->Prop):Prop:=
 ∀ (pins:List (Addr × Obj)) (s:Shared) (σ:St) (H:Hp) (x:V) (xs:List V) (v:Value) (us:List Value) (Q:VK),Inv X pins σ H s->RelV x v->Vals xs us->r x xs H Q ->
  wpAny (model X.prog X.w) X.A (call (.builtin id) (v::us)) (EP X pins σ Q) X.xe s
section
variable {X:Cx} {a b:Expr} {ta tb:TE} {pos:Pos}
theorem pe_ix {r:R2} (hr:IxR X r) (ha:PE X a ta) (hb:PE X b tb) (hs:PlainIx b):PE X (.Subscript a b pos) (tOp r ta tb):=by
 intro pins s σ H Q I h
 exact Subscript_ (binT ha hb I h fun v u s2 x y H2 I2 rx ry q=>hr a b pins s2 σ H2 x y v u Q I2 rx ry q (hs _ _))
def rIxL (K:PySem.W.Frag):R2:=fun x y H Q=>∃ p xs i v,x=.ref p/\y=.int i/\SqL K H p xs/\atI xs i=some v/\Q v H
def rIxT (K:PySem.W.Frag):R2:=fun x y H Q=>∃ p xs i v,x=.ref p/\y=.int i/\SqT K H p xs/\atI xs i=some v/\Q v H
theorem ix_list:IxR X (rIxL X.K):=by
 intro value slice pins s σ H x y v u Q I rx ry h hs
 obtain ⟨p,xs,i,z,rfl,rfl,hq,he,q⟩:=h
 cases rx
 obtain ⟨t,rfl⟩:=ry
 obtain ⟨its,r,pl,hz⟩:=I.list hq
 obtain ⟨j,h1,h2,h3,h4,h5⟩:=atI_get he
 obtain ⟨w,ew,rw'⟩:=r.get h2
 have hl:=r.length
 have hn:=line63
 have fin:EP X pins σ Q w s:=⟨z,H,I,rw',q⟩
 by_cases h0:0<=i
 ·have hj:i.toNat=j:=by
   rw [seqIndex_of h0 h5] at h1
   exact Option.some.inj h1
  exact item_listR pl.isList h0 (by omega) (by rw [hj];simpa using ew) fin hs
 ·have hj:(i+(its.toArray.size:Int)).toNat=j:=by
   rw [seqIndex_neg (by omega) h4] at h1
   rw [List.size_toArray,<-hl]
   exact Option.some.inj h1
  exact subscriptTail_builtinR (x:=w) pl.isList.typeIs slot_list_getitem.lookup
   (wpAny_getItem_list_neg (Q:=fun r s'=>r=w/\EP X pins σ Q r s') pl.isList (by omega) (by rw [List.size_toArray] <;> omega) (by omega) (by rw [hj];simpa using ew) ⟨rfl,fin⟩) hs
theorem ix_tup:IxR X (rIxT X.K):=by
 intro value slice pins s σ H x y v u Q I rx ry h hs
 obtain ⟨p,xs,i,z,rfl,rfl,hq,he,q⟩:=h
 cases rx
 obtain ⟨t,rfl⟩:=ry
 obtain ⟨its,r,pl,hz⟩:=I.tuple hq
 obtain ⟨j,h1,h2,h3,h4,h5⟩:=atI_get he
 obtain ⟨w,ew,rw'⟩:=r.get h2
 have hl:=r.length
 have hn:=line63
 have fin:EP X pins σ Q w s:=⟨z,H,I,rw',q⟩
 exact subscriptTail_builtinR (x:=w) pl.typeIs slot_tuple_getitem.lookup
  (getItem_tuple (j:=j) (Q:=fun r s'=>r=w/\EP X pins σ Q r s') pl (by omega) (by omega) (by rw [List.size_toArray,<-hl];exact h1) (by simpa using ew) ⟨rfl,fin⟩) hs
theorem mapSeq_set (its:List Value) (n j:Nat) (u:Value):Obj.mapSeq (·.setIfInBounds j u) { cls:=.type "list",data:=.seq its.toArray n }={ cls:=.type "list",data:=.seq (its.set j u).toArray n }:=by
 simp [Obj.mapSeq]
theorem Inv.lst {pins:List (Addr × Obj)} {σ:St} {H:Hp} {s:Shared} {p:Addr} {xs:List V} (I:Inv X pins σ H s) (h:H p=some (.lst xs)) :
  ∃ (its:List Value) (n:Nat),Vals xs its/\s.heap.get? p=some { cls:=.type "list",data:=.seq its.toArray n }/\xs.length<=sizeLine:=by
 obtain ⟨z,its,n,r,e⟩:=I.hok p _ h
 exact ⟨its,n,r,e,z⟩
theorem Inv.lstUpd {pins:List (Addr × Obj)} {σ:St} {H:Hp} {s:Shared} {p:Addr} {xs ys:List V} {its its':List Value} {n n':Nat} {f:Obj->Obj} (I:Inv X pins σ H s) (h:H p=some (.lst xs))
  (ho:s.heap.get? p=some { cls:=.type "list",data:=.seq its.toArray n }) (hf:f { cls:=.type "list",data:=.seq its.toArray n }={ cls:=.type "list",data:=.seq its'.toArray n' }) (r:Vals ys its') (hz:ys.length<=sizeLine) (t:Nat) :
  Inv X pins σ (upd H p (.lst ys)) { s with heap:=s.heap.update p f,toks:=t }:=by
 have e:(s.heap.update p f).get? p=some { cls:=.type "list",data:=.seq its'.toArray n' }:=by
  rw [Heap.get?_update_self f ho (by rw [hf] <;> rfl),hf]
 refine I.write (x:=p) (e:=p) (by rw [h];trivial) (.inl rfl) (fun b u hb q=>(Heap.get?_update_other _ _ (Ne.symm hb)).trans q) ⟨_,e⟩ ?_
 exact ⟨hz,its',n',r,e⟩
def rSetL:V->V->V->Hp->(Hp->Prop)->Prop:=fun o i v H Q=>∃ p xs k j,o=.ref p/\i=.int k/\H p=some (.lst xs)/\ixN xs.length k=some j/\Q (upd H p (.lst (xs.set j v)))
theorem set_list:PSet X rSetL:=by
 intro pins s σ H o i v ov iv u Q I ro ri rv h
 obtain ⟨p,xs,k,j,rfl,rfl,hp,hj,q⟩:=h
 cases ro
 obtain ⟨t,rfl⟩:=ri
 obtain ⟨its,n,r,ho,hz⟩:=I.lst hp
 obtain ⟨h1,h2,h3,h4⟩:=ixN_seq hj
 have hl:=r.length
 have hn:=line63
 have I':Inv X pins σ (upd H p (.lst (xs.set j v))) { s with heap:=s.heap.update p (Obj.mapSeq (·.setIfInBounds j u)) }:=
  I.lstUpd hp ho (mapSeq_set its n j u) (r.set rv j) (by rw [List.length_set];exact hz) s.toks
 by_cases h0:0<=k
 ·have hk:k.toNat=j:=by
   rw [seqIndex_of h0 h4] at h1
   exact Option.some.inj h1
  exact PySem.W.ki_setAt ho h0 (by omega) (by rw [List.size_toArray,<-hl];exact h4) (by rw [hk];exact ⟨_,I',q⟩)
 ·have hk:(k+(its.toArray.size:Int)).toNat=j:=by
   rw [seqIndex_neg (by omega) h3] at h1
   rw [List.size_toArray,<-hl]
   exact Option.some.inj h1
  exact PySem.W.ki_setBack ho (by omega) (by rw [List.size_toArray,<-hl];exact h3) (by omega) (by rw [hk];exact ⟨_,I',q⟩)
theorem slice_bounds (lo hi:Option Int) (n:Nat):(sliceBounds lo hi none n).1=((HT.sIx n 0 lo:Nat):Int)/\(sliceBounds lo hi none n).2.1=((HT.sIx n n hi:Nat):Int)/\(sliceBounds lo hi none n).2.2=1:=by
 refine ⟨?_,?_,rfl⟩
 ·cases lo with
  | none=>simp [sliceBounds,HT.sIx]
  | some i=>
   simp only [sliceBounds,HT.sIx,Option.getD_none,show (1:Int) > 0 by decide,if_true]
   by_cases h:i<0
   ·simp only [h,if_true] <;> omega
   ·simp only [h,if_false] <;> omega
 ·cases hi with
  | none=>simp [sliceBounds,HT.sIx]
  | some i=>
   simp only [sliceBounds,HT.sIx,Option.getD_none,show (1:Int) > 0 by decide,if_true]
   by_cases h:i<0
   ·simp only [h,if_true] <;> omega
   ·simp only [h,if_false] <;> omega
theorem slicePick_cut (its:List Value) (lo hi:Option Int):slicePick its.toArray lo hi none=((its.drop (HT.sIx its.length 0 lo)).take (HT.sIx its.length its.length hi - HT.sIx its.length 0 lo)).toArray:=by
 obtain ⟨h1,h2,h3⟩:=slice_bounds lo hi its.toArray.size
 unfold slicePick
 rw [h1,h2,h3]
 simp only [sliceRange_one,pick_run,List.size_toArray] <;> rfl
def rSlL (K:PySem.W.Frag):V->Option Int->Option Int->Hp->VK->Prop:=fun x lo hi H Q=>∃ a xs,x=.ref a/\SqL K H a xs/\∀ p,H p=none->Q (.ref p) (upd H p (.lst (cutV xs lo hi)))
theorem sl_list:SlR X (rSlL X.K):=by
 intro pins s σ H x v vl vu lo hi sl Q I rx hs pl pu h
 obtain ⟨a,xs,rfl,hx,q⟩:=h
 cases rx
 obtain ⟨its,r,ht,hz⟩:=I.list hx
 have hlen:=r.length
 refine ⟨"list",_,slot_list_getitem.lookup,ht.isList.typeIs,?_⟩
 refine wpAny_getItem_list_slice ht.isList hs pl pu .none (by simp) ?_ (by rw [List.size_toArray] <;> omega)
 rw [slicePick_cut,<-hlen]
 refine ⟨.ref s.heap.objs.size,_,I.laid (t':=s.toks) (o:=.lst (cutV xs lo hi)) (fun b ob q=>Heap.get?_push_of_some _ q) (Nat.le_refl _) ?_,rfl,q _ (I.hok.fresh (Nat.le_refl _))⟩
 exact ⟨Nat.le_trans (cutV_length xs lo hi) hz,_,0,(r.drop (HT.sIx xs.length 0 lo)).take (HT.sIx xs.length xs.length hi - HT.sIx xs.length 0 lo),Heap.get?_push_size _ rfl⟩
def flatV:V->Bool
 | .non=>true
 | .bl _=>true
 | .int _=>true
 | .str _=>true
 | _=>false
def eqV:V->V->Bool
 | .non,.non=>true
 | .bl a,.bl b=>a==b
 | .bl a,.int b=>(if a then 1 else 0)==b
 | .int a,.bl b=>a==(if b then 1 else 0)
 | .int a,.int b=>a==b
 | .str a,.str b=>a==b
 | _,_=>false
theorem eqAt_V {A:Around} {s:Shared} {y x:V} {u v:Value} (ry:RelV y u) (rx:RelV x v) (fy:flatV y=true) (fx:flatV x=true):SeqAt.EqAt A s u v (eqV y x):=by
 cases y with
 | non=>
  cases ry
  cases x with
  | non=>cases rx;exact SeqAt.EqAt.same _
  | bl b=>cases rx;exact SeqAt.EqAt.none_bool b
  | int b=>obtain ⟨t,rfl⟩:=rx;exact SeqAt.EqAt.none_int b t
  | str b=>obtain ⟨t,rfl⟩:=rx;exact SeqAt.EqAt.none_str b t
  | _=>exact absurd (show false=true from fx) Bool.false_ne_true
 | bl a=>
  cases ry
  cases x with
  | non=>cases rx;exact SeqAt.EqAt.bool_none a
  | bl b=>cases rx;exact SeqAt.EqAt.bool_bool a b
  | int b=>obtain ⟨t,rfl⟩:=rx;exact SeqAt.EqAt.bool_int a b t
  | str b=>obtain ⟨t,rfl⟩:=rx;exact SeqAt.EqAt.bool_str a b t
  | _=>exact absurd (show false=true from fx) Bool.false_ne_true
 | int a=>
  obtain ⟨t',rfl⟩:=ry
  cases x with
  | non=>cases rx;exact SeqAt.EqAt.int_none a t'
  | bl b=>cases rx;exact SeqAt.EqAt.int_bool a t' b
  | int b=>obtain ⟨t,rfl⟩:=rx;exact SeqAt.EqAt.int_int a t' b t
  | str b=>obtain ⟨t,rfl⟩:=rx;exact SeqAt.EqAt.int_str a t' b t
  | _=>exact absurd (show false=true from fx) Bool.false_ne_true
 | str a=>
  obtain ⟨t',rfl⟩:=ry
  cases x with
  | non=>cases rx;exact SeqAt.EqAt.str_none a t'
  | bl b=>cases rx;exact SeqAt.EqAt.str_bool a t' b
  | int b=>obtain ⟨t,rfl⟩:=rx;exact SeqAt.EqAt.str_int a t' b t
  | str b=>obtain ⟨t,rfl⟩:=rx;exact SeqAt.EqAt.str_str a t' b t
  | _=>exact absurd (show false=true from fx) Bool.false_ne_true
 | _=>exact absurd (show false=true from fy) Bool.false_ne_true
def eqU (x:V) (u:Value):Bool:=match u with
 | .none=>eqV .non x
 | .bool b=>eqV (.bl b) x
 | .int i _=>eqV (.int i) x
 | .str z _=>eqV (.str z) x
 | _=>false
theorem eqU_of {x y:V} {u:Value} (r:RelV y u) (f:flatV y=true):eqU x u=eqV y x:=by
 cases y with
 | non=>cases r;rfl
 | bl b=>cases r;rfl
 | int i=>obtain ⟨t,rfl⟩:=r;rfl
 | str z=>obtain ⟨t,rfl⟩:=r;rfl
 | _=>exact absurd (show false=true from f) Bool.false_ne_true
theorem any_eqU {x:V}:∀ {xs:List V} {us:List Value},Vals xs us->xs.all flatV=true->us.any (eqU x)=xs.any fun y=>eqV y x
 | _,_,.nil,_=>rfl
 | y::xs,u::us,.cons r t,f=>by
  rw [List.all_cons,Bool.and_eq_true] at f
  rw [List.any_cons,List.any_cons,eqU_of r f.1,any_eqU t f.2]
theorem mem_eqAt {A:Around} {s:Shared} {x:V} {v:Value} (rx:RelV x v) (fx:flatV x=true):∀ {xs:List V} {us:List Value},Vals xs us->xs.all flatV=true->∀ u ∈ us,SeqAt.EqAt A s u v (eqU x u)
 | _,_,.nil,_=>fun u hu=>by cases hu
 | y::xs,u::us,.cons r t,f=>fun u' hu=>by
  rw [List.all_cons,Bool.and_eq_true] at f
  rcases List.mem_cons.mp hu with rfl | hu
  ·rw [eqU_of r f.1];exact eqAt_V r rx f.1 fx
  ·exact mem_eqAt rx fx t f.2 u' hu
def inV (x:V) (xs:List V):Bool:=xs.any fun y=>eqV y x
def rIn (K:PySem.W.Frag) (neg:Bool):R2:=fun x y H Q=>∃ p xs,y=.ref p/\(SqL K H p xs\/SqT K H p xs)/\flatV x=true/\xs.all flatV=true/\Q (.bl (if neg then !inV x xs else inV x xs)) H
theorem op_in_seq:OpR X (compareOp .In) (rIn X.K false):=by
 intro pins s σ H x y v u Q I rx ry h
 obtain ⟨p,xs,rfl,hq,fx,fs,q⟩:=h
 cases ry
 rcases hq with hq | hq
 ·obtain ⟨its,r,pl,hz⟩:=I.list hq
  refine SeqAt.in_listAt (eqU x) pl.isList (fun w hw=>mem_eqAt rx fx r fs w (by simpa using hw)) ⟨.bl _,H,I,rfl,?_⟩
  rw [show its.toArray.any (eqU x)=its.any (eqU x) by simp,any_eqU r fs]
  exact q
 ·obtain ⟨its,r,pl,hz⟩:=I.tuple hq
  refine SeqAt.in_tupleAt (eqU x) pl (fun w hw=>mem_eqAt rx fx r fs w (by simpa using hw)) ⟨.bl _,H,I,rfl,?_⟩
  rw [show its.toArray.any (eqU x)=its.any (eqU x) by simp,any_eqU r fs]
  exact q
theorem call_len_seq:CallR X (.builtin "len") (fun xs H Q=>∃ p ys,xs=[.ref p]/\(SqL X.K H p ys\/SqT X.K H p ys)/\Q (.int ys.length) H):=by
 intro pins s σ H xs us Q I r h
 obtain ⟨p,ys,rfl,hq,q⟩:=h
 obtain ⟨u,rfl,rx⟩:=vals1 r
 cases rx
 have hn:=line63
 rcases hq with hq | hq
 ·obtain ⟨its,r',pl,hz⟩:=I.list hq
  have hlen:=r'.length
  exact Calls.call_len_list pl.isList (by simp only [List.size_toArray] <;> omega) ⟨.int ys.length,H,I.tok _,⟨s.toks+1,by rw [List.size_toArray,hlen]⟩,q⟩
 ·obtain ⟨its,r',pl,hz⟩:=I.tuple hq
  have hlen:=r'.length
  exact len_tuple pl (by simp only [List.size_toArray] <;> omega) ⟨.int ys.length,H,I.tok _,⟨s.toks+1,by rw [List.size_toArray,hlen]⟩,q⟩
theorem call_list_of:CallR X (.type "list") (fun xs H Q=>∃ p ys,xs=[.ref p]/\(SqL X.K H p ys\/SqT X.K H p ys)/\∀ l,H l=none->Q (.ref l) (upd H l (.lst ys))):=by
 intro pins s σ H xs us Q I r h
 obtain ⟨p,ys,rfl,hq,q⟩:=h
 obtain ⟨u,rfl,rx⟩:=vals1 r
 cases rx
 have fin:∀ (its:List Value),Vals ys its->ys.length<=sizeLine->∀ (h':Heap) (c':Nat),(∀ b o',s.heap.get? b=some o'->h'.get? b=some o') ->
   h'.get? s.heap.objs.size=some { cls:=.type "list",dict:=none,data:=.seq its.toArray c',slots:=#[] }->EP X pins σ Q (.ref s.heap.objs.size) { s with heap:=h' }:=fun its r' hz h' c' kp e=>
  ⟨.ref s.heap.objs.size,_,I.laid (t':=s.toks) kp (Nat.le_refl _) (show ObjOk X.prog X.w _ h' _ (.lst ys) from ⟨hz,its,c',r',e⟩),rfl,q _ (I.hok.fresh (Nat.le_refl _))⟩
 rcases hq with hq | hq
 ·obtain ⟨its,r',pl,hz⟩:=I.list hq
  have hlen:=r'.length
  obtain ⟨o,ho,hc,n,hd⟩:=pl.isList
  exact call_list_seq p (.inl rfl) ho hc hd (fun h' c' kp e=>fin its r' hz h' c' kp e) (by simp only [List.size_toArray] <;> omega)
 ·obtain ⟨its,r',pl,hz⟩:=I.tuple hq
  have hlen:=r'.length
  obtain ⟨o,ho,hc,n,hd⟩:=pl
  exact call_list_seq p (.inr rfl) ho hc hd (fun h' c' kp e=>fin its r' hz h' c' kp e) (by simp only [List.size_toArray] <;> omega)
def tyV (K:PySem.W.Frag) (T:String) (x:V) (H:Hp):Prop:=match x with
 | .str _=>T="str"
 | .int _=>T="int"
 | .ref p=>(T="list"/\∃ xs,SqL K H p xs)\/(T="tuple"/\∃ o,K.lookup p=some o/\o.cls=.type "tuple"/\o.dict=none) ∨
   (T="dict"/\((∃ kvs,H p=some (.dK kvs))\/∃ kvs,H p=some (.dT kvs)))\/(T="set"/\∃ S n,H p=some (.set S n))
 | _=>False
theorem tyV_is {pins:List (Addr × Obj)} {σ:St} {H:Hp} {s:Shared} {T:String} {x:V} {v:Value} (I:Inv X pins σ H s) (r:RelV x v) (ty:tyV X.K T x H) :
  s.TypeIs v T/\∀ a,v=.ref a->∃ ob,s.heap.get? a=some ob/\ob.dict=none:=by
 cases x with
 | str z=>
  obtain ⟨t,rfl⟩:=r
  cases (show T="str" from ty)
  exact ⟨typeIs_str s z t,fun _ e=>nomatch e⟩
 | int i=>
  obtain ⟨t,rfl⟩:=r
  cases (show T="int" from ty)
  exact ⟨typeIs_int s i t,fun _ e=>nomatch e⟩
 | ref p=>
  cases r
  rcases ty with ⟨rfl,xs,hq⟩ | ⟨rfl,o,hk,hc,hd⟩ | ⟨rfl,hk⟩ | ⟨rfl,S,n,hk⟩
  ·obtain ⟨its,_,pl,_⟩:=I.list hq
   refine ⟨pl.isList.typeIs,fun a e=>?_⟩
   cases e
   obtain ⟨o,n,e,c,hd,_⟩:=pl
   exact ⟨o,e,hd⟩
  ·refine ⟨⟨o,I.kIn p o hk,hc⟩,fun a e=>?_⟩
   cases e
   exact ⟨o,I.kIn _ o hk,hd⟩
  ·have z:∃ o,s.heap.get? p=some o/\o.ExactDict:=by
    rcases hk with ⟨kvs,hk⟩ | ⟨kvs,hk⟩
    ·obtain ⟨_,_,_,_,o,_,_,e,ex,_⟩:=I.hok p _ hk
     exact ⟨o,e,ex⟩
    ·obtain ⟨_,_,_,_,o,_,_,e,ex,_⟩:=I.hok p _ hk
     exact ⟨o,e,ex⟩
   obtain ⟨o,e,ex⟩:=z
   refine ⟨⟨o,e,ex.1⟩,fun a e2=>?_⟩
   cases e2
   exact ⟨o,e,ex.2.1⟩
  ·obtain ⟨o,_,_,_,e,ex,_⟩:=I.hok p _ hk
   refine ⟨⟨o,e,ex.1⟩,fun a e2=>?_⟩
   cases e2
   exact ⟨o,e,ex.2.1⟩
 | _=>exact False.elim ty
def tBM0 (K:PySem.W.Frag) (T:String) (r:V->List V->Hp->VK->Prop) (to:TE):TE:=fun σ H Q=>to σ H fun x H1=>tyV K T x H1/\r x [] H1 Q
def tBM (K:PySem.W.Frag) (T:String) (r:V->List V->Hp->VK->Prop) (to:TE) (t:TA):TE:=fun σ H Q=>to σ H fun x H1=>tyV K T x H1/\t σ H1 fun xs H2=>r x xs H2 Q
variable {o e:Expr} {es:List Expr} {to:TE} {t:TA} {name:Str} {apos cpos:Pos} {T id:String} {r:V->List V->Hp->VK->Prop}
theorem pe_bm0 (pa:PlainAttrs T) (slot:Slot T name id) (hty:typeOf (.builtin id)=pure (.type "method_descriptor")) (hm:MtR X id r) (ho:PE X o to)
  (hbase:attributeBase o name X.env (eval o X.env)=eval o X.env:=by rfl) (hline:(apos.endLine==cpos.line)=true:=by rfl):PE X (.Call (.Attribute o name apos) [] [] cpos) (tBM0 X.K T r to):=by
 intro pins s σ H Q I h
 refine wpAny_Call_method0_late hbase hline (thn (ho pins s σ H _ I h) fun v s1 ⟨x,H1,I1,r1,ty,q1⟩=>?_)
 obtain ⟨h1,h2⟩:=tyV_is I1 r1 ty
 exact ⟨T,id,pa,slot,hty,h1,h2,Calls.callWith_builtin rfl (PySem.evalArgs_none (hm pins s1 σ H1 x [] v [] Q I1 r1 .nil q1))⟩
theorem pe_bm (pa:PlainAttrs T) (slot:Slot T name id) (hty:typeOf (.builtin id)=pure (.type "method_descriptor")) (hm:MtR X id r) (ho:PE X o to) (ha:PA X (e::es) t)
  (hbase:attributeBase o name X.env (eval o X.env)=eval o X.env:=by rfl)
  (hfew:((backTo cpos (starEach (e::es) X.env)).all (fun x=>!x.1) && (backToKw cpos (keywordEach [] X.env)).all (fun x=>x.1.isSome)
   && decide ((e::es).length+([]:List Keyword).length+(if ([]:List Keyword).isEmpty then 0 else 1)<30))=true:=by rfl)
  (hline:(apos.endLine==cpos.line)=true:=by rfl) (hs:starEach (e::es) X.env=(false,eval e X.env)::starEach es X.env:=by rfl) (hplain:(backTo cpos (starEach es X.env)).any (·.1)=false:=by rfl) :
  PE X (.Call (.Attribute o name apos) (e::es) [] cpos) (tBM X.K T r to t):=by
 intro pins s σ H Q I h
 refine wpAny_Call_method_late hbase hfew hline rfl (thn (ho pins s σ H _ I h) fun v s1 ⟨x,H1,I1,r1,ty,q1⟩=>?_)
 obtain ⟨h1,h2⟩:=tyV_is I1 r1 ty
 refine ⟨T,id,pa,slot,hty,h1,h2,?_⟩
 have hA:=ha cpos pins s1 σ H1 _ I1 q1
 rw [hs] at hA ⊢
 refine Calls.callWith_builtin (by show (false || (backTo cpos (starEach es X.env)).any (·.1))=false;rw [hplain] <;> rfl) (Calls.evalArgs_plain ?_)
 exact thn hA fun us s2 ⟨vs,H2,I2,r2,q2⟩=>hm pins s2 σ H2 x vs v us Q I2 r1 r2 q2
end
end L2
namespace L2
open PySem PySem.Spec PyProof.Rows
def MtM (X:Cx) (id:String) (r:V->List V->Hp->VK->Prop):Prop:=
 ∀ (pins:List (Addr × Obj)) (s:Shared) (σ:St) (H:Hp) (x:V) (xs:List V) (v:Value) (us:List Value) (Q:VK),Inv X pins σ H s->RelV x v->Vals xs us->r x xs H Q ->
  wpAny (model X.prog X.w) X.A (call (.builtin id) (v::us)) (EP X pins σ Q) X.xe s
theorem Vals.one:∀ {x:V} {us:List Value},Vals [x] us->∃ u,us=[u]/\RelV x u
 | _,_,.cons r .nil=>⟨_,rfl,r⟩
theorem Vals.zero:∀ {us:List Value},Vals [] us->us=[]
 | _,.nil=>rfl
theorem Vals.dropLast {xs:List V} {us:List Value} (h:Vals xs us):Vals xs.dropLast us.dropLast:=by
 induction h with
 | nil=>exact .nil
 | cons r t ih=>
  cases t with
  | nil=>exact .nil
  | cons q t'=>exact .cons r ih
theorem Vals.rep {xs:List V} {us:List Value} (h:Vals xs us):∀ k:Nat,Vals (List.replicate k xs).flatten (List.replicate k us).flatten
 | 0=>.nil
 | k+1=>by
  rw [List.replicate_succ,List.replicate_succ,List.flatten_cons,List.flatten_cons]
  exact Vals.append h (Vals.rep h k)
theorem erase_last {α:Type} (l:List α):l.eraseIdx (l.length - 1)=l.dropLast:=by
 induction l with
 | nil=>rfl
 | cons a r ih=>
  cases r with
  | nil=>rfl
  | cons b r=>
   have e:(a::b::r).length - 1=((b::r).length - 1)+1:=by
    have h1:(a::b::r).length=r.length+2:=rfl
    have h2:(b::r).length=r.length+1:=rfl
    omega
   rw [e,List.eraseIdx_cons_succ,ih]
   all_goals rfl
theorem foldl_rep (its:List Value):∀ (k:Nat) (acc:List Value),
  List.foldl (fun x1 x2=>x1++x2) acc.toArray (List.replicate k its.toArray)=(acc++(List.replicate k its).flatten).toArray
 | 0,acc=>by simp
 | k+1,acc=>by
  have e:acc.toArray++its.toArray=(acc++its).toArray:=by simp
  have e2:(acc++its)++(List.replicate k its).flatten=acc++(List.replicate (k+1) its).flatten:=by
   rw [List.replicate_succ,List.flatten_cons,List.append_assoc]
  rw [<-e2,<-foldl_rep its k (acc++its),<-e,List.replicate_succ,List.foldl_cons]
section
variable {X:Cx} {pins:List (Addr × Obj)} {σ:St} {H:Hp} {s:Shared} {l b:Addr} {xs ys zs:List V}
theorem Inv.lset {its its':List Value} {n:Nat} {f:Array Value->Array Value} {t':Nat} (I:Inv X pins σ H s) (hH:H l=some (.lst xs))
  (e:s.heap.get? l=some { cls:=.type "list",data:=.seq its.toArray n }) (hf:f its.toArray=its'.toArray) (hv:Vals ys its') (hz:ys.length<=sizeLine) :
  Inv X pins σ (upd H l (.lst ys)) { s with heap:=s.heap.update l (Obj.mapSeq f),toks:=t' }:=by
 have q:=PySem.IsL.update e f
 rw [hf] at q
 refine I.write (x:=l) (e:=l) (by rw [hH];exact trivial) (.inl rfl) (fun b' u hb hu=>(Heap.get?_update_other s.heap (Obj.mapSeq f) (Ne.symm hb)).trans hu) ⟨_,q⟩ ?_
 exact ⟨hz,its',_,hv,q⟩
theorem Inv.lnew {its:List Value} {t':Nat} (I:Inv X pins σ H s) (hv:Vals ys its) (hz:ys.length<=sizeLine) :
  Inv X pins σ (upd H s.heap.objs.size (.lst ys)) { s with heap:=s.heap.push { cls:=.type "list",data:=.seq its.toArray },toks:=t' }:=
 I.laid (fun _ _ q=>Heap.get?_push_of_some _ q) (Nat.le_refl _) ⟨hz,its,0,hv,Heap.get?_push_size _ rfl⟩
theorem Inv.fresh (I:Inv X pins σ H s):H s.heap.objs.size=none:=I.hok.fresh (Nat.le_refl _)
theorem Inv.lstM (I:Inv X pins σ H s) (hH:H l=some (.lst xs)):xs.length<=sizeLine/\∃ (its:List Value) (n:Nat),Vals xs its/\xs.length=its.length/\s.heap.get? l=some { cls:=.type "list",data:=.seq its.toArray n }:=by
 obtain ⟨z,its,n,r,e⟩:=I.hok l _ hH
 exact ⟨z,its,n,r,r.length,e⟩
theorem notLongL {n:Nat} (h:n<=sizeLine):Builtin.List.listTooLong n=false:=by
 unfold Builtin.List.listTooLong
 exact decide_eq_false (by omega)
end
section
variable {X:Cx}
def rAppend:V->List V->Hp->VK->Prop:=fun x vs H Q=>∃ l xs y,x=.ref l/\vs=[y]/\H l=some (.lst xs)/\xs.length<sizeLine/\Q .non (upd H l (.lst (xs++[y])))
theorem mt_append:MtM X "list.append" rAppend:=by
 intro pins s σ H x vs v us Q I rx rv h
 obtain ⟨l,xs,y,rfl,rfl,hH,hz,q⟩:=h
 cases rx
 obtain ⟨u,rfl,ru⟩:=rv.one
 obtain ⟨z,its,n,r,hl,e⟩:=I.lstM hH
 refine call_meets F.slot_list_append ⟨_,e,rfl⟩ F.entry_list_append (F.args_list_append_2 _ _) (PySem.list_append l its.toArray n u (by rw [List.size_toArray];omega)) ⟨e,?_⟩
 refine ⟨.non,_,I.lset (its':=its++[u]) hH e (by simp) (r.append (.cons ru .nil)) ?_,rfl,q⟩
 rw [List.length_append,List.length_singleton]
 omega
def rExtend:V->List V->Hp->VK->Prop:=fun x vs H Q=>∃ l b xs zs,x=.ref l/\vs=[.ref b]/\H l=some (.lst xs)/\H b=some (.lst zs)/\xs.length+zs.length<=sizeLine/\Q .non (upd H l (.lst (xs++zs)))
theorem mt_extend:MtM X "list.extend" rExtend:=by
 intro pins s σ H x vs v us Q I rx rv h
 obtain ⟨l,b,xs,zs,rfl,rfl,hH,hB,hz,q⟩:=h
 cases rx
 obtain ⟨u,rfl,ru⟩:=rv.one
 cases ru
 obtain ⟨z,its,n,r,hl,e⟩:=I.lstM hH
 obtain ⟨z2,its2,n2,r2,hl2,e2⟩:=I.lstM hB
 have hsz:its.toArray.size+its2.toArray.size<=sizeLine:=by rw [List.size_toArray,List.size_toArray];omega
 have hlong:¬ (!its.toArray.isEmpty && Builtin.List.listTooLong (its.toArray.size+its2.toArray.size))=true:=by
  rw [notLongL hsz,Bool.and_false]
  exact Bool.false_ne_true
 refine call_meets F.slot_list_extend ⟨_,e,rfl⟩ F.entry_list_extend (F.args_list_extend_2 _ _)
  (AutoSeq1.list_extend_list_list_0 l its.toArray n b its2.toArray n2 hlong (by rw [List.size_toArray];omega) (by omega)) ⟨e,e2,?_⟩
 refine ⟨.non,_,I.lset (its':=its++its2) hH e (by simp) (r.append r2) ?_,rfl,q⟩
 rw [List.length_append]
 omega
def rPop:V->List V->Hp->VK->Prop:=fun x vs H Q=>∃ l xs y,x=.ref l/\vs=[]/\H l=some (.lst xs)/\xs[xs.length - 1]?=some y/\Q y (upd H l (.lst xs.dropLast))
theorem mt_pop:MtM X "list.pop" rPop:=by
 intro pins s σ H x vs v us Q I rx rv h
 obtain ⟨l,xs,y,rfl,rfl,hH,hy,q⟩:=h
 cases rx
 have hus:=rv.zero
 subst hus
 obtain ⟨z,its,n,r,hl,e⟩:=I.lstM hH
 obtain ⟨u,hu,ru⟩:=r.get hy
 have hy':its.toArray[its.toArray.size - 1]?=some u:=by
  show its.toArray[its.length - 1]?=some u
  rw [<-Array.getElem?_toList,<-hl]
  exact hu
 refine call_meets F.slot_list_pop ⟨_,e,rfl⟩ F.entry_list_pop (F.args_list_pop_1 _) (MeetsSeq.list_pop_last l its.toArray n u hy' (by rw [List.size_toArray];omega)) ⟨e,?_⟩
 refine ⟨y,_,I.lset (its':=its.dropLast) hH e ?_ r.dropLast ?_,ru,q⟩
 ·show its.toArray.eraseIdxIfInBounds (its.toArray.size - 1)=its.dropLast.toArray
  rw [List.size_toArray,List.eraseIdxIfInBounds_toArray,erase_last]
 ·rw [List.length_dropLast]
  omega
def rCat:R2:=fun x y H Q=>∃ l b xs zs,x=.ref l/\y=.ref b/\H l=some (.lst xs)/\H b=some (.lst zs)/\xs.length+zs.length<=sizeLine/\∀ p,H p=none->Q (.ref p) (upd H p (.lst (xs++zs)))
theorem op_cat:OpR X (binaryOp .Add) rCat:=by
 intro pins s σ H x y v u Q I rx ry h
 obtain ⟨l,b,xs,zs,rfl,rfl,hH,hB,hz,q⟩:=h
 cases rx
 cases ry
 obtain ⟨z,its,n,r,hl,e⟩:=I.lstM hH
 obtain ⟨z2,its2,n2,r2,hl2,e2⟩:=I.lstM hB
 refine PySem.P.add_list e e2 ?_ (by rw [List.size_toArray,List.size_toArray];omega)
 have ea:its.toArray++its2.toArray=(its++its2).toArray:=by simp
 rw [ea]
 exact ⟨.ref _,_,I.lnew (t':=s.toks) (r.append r2) (by rw [List.length_append];omega),rfl,q _ I.fresh⟩
def rRep:R2:=fun x y H Q=>∃ l k xs,x=.ref l/\y=.int k/\H l=some (.lst xs)/\-(2 ^ 63)<=k/\k<2 ^ 63/\xs.length * k.toNat<=sizeLine/\
 ∀ p,H p=none->Q (.ref p) (upd H p (.lst (List.replicate k.toNat xs).flatten))
theorem len_rep {α:Type} (xs:List α) (k:Nat):(List.replicate k xs).flatten.length=k * xs.length:=by
 induction k with
 | zero=>simp
 | succ k ih=>rw [List.replicate_succ,List.flatten_cons,List.length_append,ih,Nat.succ_mul,Nat.add_comm]
theorem op_rep:OpR X (binaryOp .Mult) rRep:=by
 intro pins s σ H x y v u Q I rx ry h
 obtain ⟨l,k,xs,rfl,rfl,hH,h1,h2,hz,q⟩:=h
 cases rx
 obtain ⟨t,rfl⟩:=ry
 obtain ⟨z,its,n,r,hl,e⟩:=I.lstM hH
 have hlen:its.toArray.size * k.toNat<=sizeLine:=by rw [List.size_toArray,<-hl];exact hz
 have hcap:¬ its.toArray.size * k.toNat > (2 ^ 63 - 1) / 8:=by
  have:(sizeLine:Nat)<=(2 ^ 63 - 1) / 8:=by decide
  omega
 have hfit:¬ (!Builtin.List.listFitsIndex k)=true:=by
  rw [fitsIndex_both h1 h2]
  exact Bool.false_ne_true
 have hlong:¬ Builtin.List.listTooLong (its.toArray.size * k.toNat)=true:=by
  rw [notLongL hlen]
  exact Bool.false_ne_true
 have hnew:List.foldl (fun x1 x2=>x1++x2) #[] (List.replicate (if its.toArray.isEmpty=true then 0 else k.toNat) its.toArray)=(List.replicate k.toNat its).flatten.toArray:=by
  have f0:∀ m:Nat,List.foldl (fun x1 x2=>x1++x2) #[] (List.replicate m its.toArray)=(List.replicate m its).flatten.toArray:=fun m=>by
   have:=foldl_rep its m []
   rw [List.nil_append] at this
   exact this
  rw [f0]
  cases its with
  | nil=>simp
  | cons a r'=>rw [if_neg (by simp)]
 refine wpAny_binaryOp_repeat_ref (T:="list") (U:="int") (by decide) ⟨_,e,rfl⟩ (fun s'=>typeIs_int s' k t) noFill_list_mul F.fills_int_mul F.slot_int_rmul repeat_list F.slot_int_index.lookup
  (call_meets F.slot_int_rmul (typeIs_int s k t) F.entry_int_rmul (F.args_int_rmul_2 _ _) (int___rmul___int_list k t l its.toArray n)
   ⟨e,rfl,⟨_,e,rfl⟩,call_meets F.slot_list_mul ⟨_,e,rfl⟩ F.entry_list_mul (F.args_list_mul_2 _ _) (AutoListH.list___mul___list_int_3 l its.toArray n k t hfit hcap hlong) ⟨e,?_⟩⟩)
 rw [hnew]
 exact ⟨.ref _,_,I.lnew (t':=s.toks) (r.rep k.toNat) (by rw [len_rep,Nat.mul_comm];exact hz),rfl,q _ I.fresh⟩
end
end L2
namespace L2
open PySem PySem.Spec PyProof.Rows
theorem Vals.ints:∀ {ns:List Int} {us:List Value},Vals (ns.map V.int) us->IntsAre us ns
 | [],us,h=>by
  rw [List.map_nil] at h
  cases h
  exact IntsAre.nil
 | n::ns,us,h=>by
  rw [List.map_cons] at h
  cases h with
  | cons r t=>
   obtain ⟨k,rfl⟩:=r
   exact IntsAre.cons n k (Vals.ints t)
theorem vals_of_ints:∀ {us:List Value} {ns:List Int},IntsAre us ns->Vals (ns.map V.int) us
 | _,_,.nil=>by rw [List.map_nil];exact Paired.nil
 | _,_,.cons n t h=>by rw [List.map_cons];exact Paired.cons (show RelV (V.int n) (Value.int n t) from ⟨t,rfl⟩) (vals_of_ints h)
theorem Vals.bls:∀ {bs:List Bool} {us:List Value},Vals (bs.map V.bl) us->us=bs.map Value.bool
 | [],us,h=>by
  rw [List.map_nil] at h
  cases h
  rfl
 | b::bs,us,h=>by
  rw [List.map_cons] at h
  cases h with
  | cons r t=>
   cases r
   rw [Vals.bls t,List.map_cons]
theorem Vals.ref1 {a:Addr} {us:List Value} (r:Vals [V.ref a] us):us=[Value.ref a]:=by
 cases r with
 | cons r t=>
  cases t
  cases r
  rfl
section
variable {prog:Program} {w:World} {A:Around} {E:Value->Shared->Prop} {s:Shared} {l:Addr} {its:List Value} {ns:List Int} {Q:Value->Shared->Prop}
theorem sum_raw (hh:A.handled=none) (hl:s.heap.IsList l its.toArray) (hi:IntsAre its ns)
  (h:∀ h' tk t',(∀ b o,s.heap.get? b=some o->h'.get? b=some o)->Q (.int ns.sum t') { s with heap:=h',toks:=tk }):wpAny (model prog w) A (call (.builtin "sum") [.ref l]) Q E s:=by
 obtain ⟨xs,e⟩:=hi.allInts.items
 have hn:numsOf (intItems xs).toList=ns:=by rw [<-e];exact hi.numsOf
 rw [nums_intItems] at hn
 rw [e] at hl
 refine PySem.sum_intListG hh hl fun h' tk t' hk=>?_
 have:=h h' tk t' hk
 rw [preSum_eq,List.take_of_length_le (by simp),hn];exact this
theorem max_raw (hh:A.handled=none) (hl:s.heap.IsList l its.toArray) (hi:IntsAre its ns) (hne:0<ns.length)
  (h:∀ h' tk M t',(∀ b o,s.heap.get? b=some o->h'.get? b=some o)->M ∈ ns->(∀ a,a ∈ ns->a<=M)->Q (.int M t') { s with heap:=h',toks:=tk }):wpAny (model prog w) A (call (.builtin "max") [.ref l]) Q E s:=by
 obtain ⟨xs,e⟩:=hi.allInts.items
 have hn:numsOf (intItems xs).toList=ns:=by rw [<-e];exact hi.numsOf
 rw [nums_intItems] at hn
 subst hn
 rw [e] at hl
 have hsz:0<xs.size:=by simpa using hne
 refine PySem.max_intList hh hl hsz fun v h' tk hv hk=>?_
 obtain ⟨t,rfl⟩:=intItems_at hv
 obtain ⟨h1,h2⟩:=argBest_gt (numAt xs) (xs.size - 1)
 refine h h' tk _ t hk ?_ fun a ha=>?_
 ·rw [numAt_eq];exact PySem.getD_mem (by rw [List.length_map,Array.length_toList];omega)
 ·obtain ⟨j,hj,rfl⟩:=mem_getD ha
  rw [List.length_map,Array.length_toList] at hj
  rw [<-numAt_eq];exact h2 j (by omega)
theorem min_raw (hh:A.handled=none) (hl:s.heap.IsList l its.toArray) (hi:IntsAre its ns) (hne:0<ns.length)
  (h:∀ h' tk M t',(∀ b o,s.heap.get? b=some o->h'.get? b=some o)->M ∈ ns->(∀ a,a ∈ ns->M<=a)->Q (.int M t') { s with heap:=h',toks:=tk }):wpAny (model prog w) A (call (.builtin "min") [.ref l]) Q E s:=by
 obtain ⟨xs,e⟩:=hi.allInts.items
 have hn:numsOf (intItems xs).toList=ns:=by rw [<-e];exact hi.numsOf
 rw [nums_intItems] at hn
 subst hn
 rw [e] at hl
 have hsz:0<xs.size:=by simpa using hne
 refine PySem.min_intList hh hl hsz fun v h' tk hv hk=>?_
 obtain ⟨t,rfl⟩:=intItems_at hv
 obtain ⟨h1,h2⟩:=argBest_lt (numAt xs) (xs.size - 1)
 refine h h' tk _ t hk ?_ fun a ha=>?_
 ·rw [numAt_eq];exact PySem.getD_mem (by rw [List.length_map,Array.length_toList];omega)
 ·obtain ⟨j,hj,rfl⟩:=mem_getD ha
  rw [List.length_map,Array.length_toList] at hj
  rw [<-numAt_eq];exact h2 j (by omega)
end
section
variable {X:Cx}
def rSum (K:PySem.W.Frag):List V->Hp->VK->Prop:=fun vs H Q=>∃ (a:Addr) (ns:List Int),vs=[V.ref a]/\SqL K H a (ns.map V.int)/\Q (.int ns.sum) H
def rMax (K:PySem.W.Frag):List V->Hp->VK->Prop:=fun vs H Q=>∃ (a:Addr) (ns:List Int),vs=[V.ref a]/\SqL K H a (ns.map V.int)/\0<ns.length/\∀ m,m ∈ ns->(∀ y,y ∈ ns->y<=m)->Q (.int m) H
def rMin (K:PySem.W.Frag):List V->Hp->VK->Prop:=fun vs H Q=>∃ (a:Addr) (ns:List Int),vs=[V.ref a]/\SqL K H a (ns.map V.int)/\0<ns.length/\∀ m,m ∈ ns->(∀ y,y ∈ ns->m<=y)->Q (.int m) H
theorem cr_sum (hc:X.calm=true):CallR X (.builtin "sum") (rSum X.K):=by
 intro pins s σ H vs us Q I r h
 obtain ⟨a,ns,rfl,hs,q⟩:=h
 obtain ⟨its,rv,hl,_⟩:=I.list hs
 rw [Vals.ref1 r]
 exact sum_raw (I.ok.hd hc) hl.isList rv.ints fun h' tk t' hk=>⟨.int _,H,I.kept hk,⟨_,rfl⟩,q⟩
theorem cr_max (hc:X.calm=true):CallR X (.builtin "max") (rMax X.K):=by
 intro pins s σ H vs us Q I r h
 obtain ⟨a,ns,rfl,hs,hne,q⟩:=h
 obtain ⟨its,rv,hl,_⟩:=I.list hs
 rw [Vals.ref1 r]
 exact max_raw (I.ok.hd hc) hl.isList rv.ints hne fun h' tk m t' hk h1 h2=>⟨.int _,H,I.kept hk,⟨_,rfl⟩,q m h1 h2⟩
theorem cr_min (hc:X.calm=true):CallR X (.builtin "min") (rMin X.K):=by
 intro pins s σ H vs us Q I r h
 obtain ⟨a,ns,rfl,hs,hne,q⟩:=h
 obtain ⟨its,rv,hl,_⟩:=I.list hs
 rw [Vals.ref1 r]
 exact min_raw (I.ok.hd hc) hl.isList rv.ints hne fun h' tk m t' hk h1 h2=>⟨.int _,H,I.kept hk,⟨_,rfl⟩,q m h1 h2⟩
end
theorem iter_any {prog:Program} {w:World} {A:Around} {E:Value->Shared->Prop} {s:Shared} {l:Addr} {items:Array Value} {Q:Value->Shared->Prop} (hl:s.heap.IsList l items)
  (h:∀ s₂:Shared,s₂={ s with heap:=s.heap.push { cls:=.type "list_iterator",data:=.fields #[.ref l,.int 0 0] } } ->
   (s₂.heap.IsListIter s.heap.objs.size l 0/\s₂.heap.IsList l items)->l ≠ s.heap.objs.size->Q (.ref s.heap.objs.size) s₂):wpAny (model prog w) A (pyIter (.ref l)) Q E s:=by
 have hlt:l<s.heap.objs.size:=by obtain ⟨_,e,_⟩:=hl;exact Heap.lt_size e
 exact wpAny_pyIter_list hl (h _ rfl ⟨⟨_,Heap.get?_push_size _ rfl,rfl,rfl⟩,hl.push _⟩ (Nat.ne_of_lt hlt))
theorem truth_bools {prog:Program} {w:World} {A:Around} {bs:List Bool} {its:List Value} (e:its=bs.map Value.bool) :
  TruthOf prog w A (fun i v=>its.toArray[i]?=some v) (fun i=>bs.getD i false):=fun i v s Q E hv hq=>by
 have hv':its[i]?=some v:=by simpa using hv
 rw [e,List.getElem?_map] at hv'
 obtain ⟨b,hb,rfl⟩:=Option.map_eq_some_iff.mp hv'
 have hg:bs.getD i false=b:=by rw [List.getD_eq_getElem?_getD,hb] <;> rfl
 have hq':Q (bs.getD i false) s:=hq
 rw [hg] at hq'
 exact wpAny_truthy_bool hq'
theorem any_range:∀ bs:List Bool,(List.range bs.length).any (fun i=>bs.getD i false)=bs.any id
 | []=>rfl
 | b::bs=>by
  rw [List.length_cons,List.range_succ_eq_map,List.any_cons,List.any_map,List.any_cons,<-any_range bs]
  all_goals rfl
theorem all_range:∀ bs:List Bool,(List.range bs.length).all (fun i=>bs.getD i false)=bs.all id
 | []=>rfl
 | b::bs=>by
  rw [List.length_cons,List.range_succ_eq_map,List.all_cons,List.all_map,List.all_cons,<-all_range bs]
  all_goals rfl
section
variable {X:Cx}
def rAny (K:PySem.W.Frag):List V->Hp->VK->Prop:=fun vs H Q=>∃ (a:Addr) (bs:List Bool),vs=[V.ref a]/\SqL K H a (bs.map V.bl)/\Q (.bl (bs.any id)) H
def rAll (K:PySem.W.Frag):List V->Hp->VK->Prop:=fun vs H Q=>∃ (a:Addr) (bs:List Bool),vs=[V.ref a]/\SqL K H a (bs.map V.bl)/\Q (.bl (bs.all id)) H
theorem cr_any (hc:X.calm=true):CallR X (.builtin "any") (rAny X.K):=by
 intro pins s σ H vs us Q I r h
 obtain ⟨a,bs,rfl,hs,q⟩:=h
 obtain ⟨its,rv,hl,_⟩:=I.list hs
 rw [Vals.ref1 r]
 have hb:=rv.bls
 refine call_any_walk (iter_any hl.isList fun s₂ e2 st hne=>?_)
 subst e2
 refine ⟨_,_,_,_,_,_,_,rfl,Walks.list (A:=X.A.in1) (I.ok.hd hc) _ a hne its.toArray,st,truth_bools hb,fun h' tk hk=>?_⟩
 refine ⟨.bl _,H,I.kept fun b o eo=>hk b o (fun hmem=>?_) (Heap.get?_push_of_some _ eo),?_,q⟩
 ·rcases List.mem_cons.mp hmem with e1 | hmem
  ·exact absurd (e1 ▸ Heap.lt_size eo) (Nat.lt_irrefl _)
  ·cases hmem
 ·show Value.bool _=Value.bool _
  rw [<-any_range,hb,List.size_toArray,List.length_map]
theorem cr_all (hc:X.calm=true):CallR X (.builtin "all") (rAll X.K):=by
 intro pins s σ H vs us Q I r h
 obtain ⟨a,bs,rfl,hs,q⟩:=h
 obtain ⟨its,rv,hl,_⟩:=I.list hs
 rw [Vals.ref1 r]
 have hb:=rv.bls
 refine call_all_walk (iter_any hl.isList fun s₂ e2 st hne=>?_)
 subst e2
 refine ⟨_,_,_,_,_,_,_,rfl,Walks.list (A:=X.A.in1) (I.ok.hd hc) _ a hne its.toArray,st,truth_bools hb,fun h' tk hk=>?_⟩
 refine ⟨.bl _,H,I.kept fun b o eo=>hk b o (fun hmem=>?_) (Heap.get?_push_of_some _ eo),?_,q⟩
 ·rcases List.mem_cons.mp hmem with e1 | hmem
  ·exact absurd (e1 ▸ Heap.lt_size eo) (Nat.lt_irrefl _)
  ·cases hmem
 ·show Value.bool _=Value.bool _
  rw [<-all_range,hb,List.size_toArray,List.length_map]
end
end L2
namespace L2
open PySem PySem.Spec PyProof.Rows
abbrev CellAt (h:Heap) (c:Addr) (v:Option Value):Prop:=h.IsCell c v
def relS (scope sc:Scope):Scope:=
 { scope with names:=scope.names.map fun (n,k)=>if (k==.free && sc.kind==.function && sc.names.lookup n==some .cell) then (n,.cell) else (n,k) }
def cloFrom (cells:List (Str × Addr)):List (Str × NameKind)->List (Str × Addr)->List (Str × Addr)
 | [],acc=>acc
 | (n,k)::r,acc=>if k==.free then cloFrom cells r ((n,(cells.lookup n).getD 0)::acc) else cloFrom cells r acc
theorem closure_loop (env:Env) (f:Str × NameKind->List (Str × Addr)->Sem (ForInStep (List (Str × Addr))))
  (hf:∀ n k c,f (n,k) c=if k==.free then (do let a <-cellOf env n;pure (.yield ((n,a)::c))) else pure (.yield c)) :
  ∀ (names:List (Str × NameKind)) (acc:List (Str × Addr)),(∀ y ∈ names,y.2=.free->∃ c,env.cells.lookup y.1=some c)->forIn names acc f=pure (cloFrom env.cells names acc)
 | [],acc,_=>by rw [List.forIn_nil];rfl
 | (n,k)::r,acc,h=>by
  rw [List.forIn_cons,hf]
  have ih:=fun acc=>closure_loop env f hf r acc fun y hy=>h y (List.mem_cons_of_mem _ hy)
  unfold cloFrom
  by_cases hk:(k==NameKind.free)=true
  ·rw [if_pos hk,if_pos hk]
   obtain ⟨c,hc⟩:=h (n,k) List.mem_cons_self (by simpa using hk)
   have e:cellOf env n=pure c:=by unfold cellOf;rw [hc]
   rw [e]
   have e2:(env.cells.lookup n).getD 0=c:=by rw [hc];rfl
   rw [e2]
   exact ih _
  ·rw [if_neg hk,if_neg hk]
   exact ih _
theorem closure_ok {scope:Scope} {env:Env} (h:∀ y ∈ scope.names,y.2=.free->∃ c,env.cells.lookup y.1=some c):closureFor scope env=pure (cloFrom env.cells scope.names []):=by
 simp only [closureFor]
 rw [closure_loop env _ (fun n k c=>rfl) scope.names [] h]
 rfl
theorem mem_lookup {α:Type}:∀ {l:List (Str × α)} {n:Str} {c:α},(n,c) ∈ l->∃ c',l.lookup n=some c'
 | (k,v)::r,n,c,h=>by
  rw [List.lookup_cons]
  cases hb:n==k with
  | true=>exact ⟨_,rfl⟩
  | false=>
   rcases List.mem_cons.mp h with e | h
   ·cases e;simp at hb
   ·exact mem_lookup h
theorem cloFrom_mem {cells:List (Str × Addr)}:∀ {names:List (Str × NameKind)} {acc:List (Str × Addr)} {n:Str} {c:Addr},(n,c) ∈ cloFrom cells names acc->(n,c) ∈ acc\/((n,.free) ∈ names/\c=(cells.lookup n).getD 0)
 | [],_,_,_,h=>.inl h
 | (m,k)::r,acc,n,c,h=>by
  unfold cloFrom at h
  split at h
  ·rename_i hk
   have hk:k=.free:=by simpa using hk
   rcases cloFrom_mem h with h | ⟨h1,h2⟩
   ·rcases List.mem_cons.mp h with e | h
    ·cases e;exact .inr ⟨hk ▸ List.mem_cons_self,rfl⟩
    ·exact .inl h
   ·exact .inr ⟨List.mem_cons_of_mem _ h1,h2⟩
  ·rcases cloFrom_mem h with h | ⟨h1,h2⟩
   ·exact .inl h
   ·exact .inr ⟨List.mem_cons_of_mem _ h1,h2⟩
theorem cloFrom_acc {cells:List (Str × Addr)}:∀ {names:List (Str × NameKind)} {acc:List (Str × Addr)} {p:Str × Addr},p ∈ acc->p ∈ cloFrom cells names acc
 | [],_,_,h=>h
 | (m,k)::r,acc,p,h=>by
  unfold cloFrom
  split
  ·exact cloFrom_acc (List.mem_cons_of_mem _ h)
  ·exact cloFrom_acc h
theorem cloFrom_has {cells:List (Str × Addr)}:∀ {names:List (Str × NameKind)} {acc:List (Str × Addr)} {n:Str},(n,.free) ∈ names->(n,(cells.lookup n).getD 0) ∈ cloFrom cells names acc
 | (m,k)::r,acc,n,h=>by
  unfold cloFrom
  rcases List.mem_cons.mp h with e | h
  ·cases e
   exact cloFrom_acc List.mem_cons_self
  ·split
   ·exact cloFrom_has h
   ·exact cloFrom_has h
theorem cells_mem:∀ {names:List (Str × NameKind)} {h:Heap} {acc:List (Str × Addr)} {x:Str} {c:Addr},(x,c) ∈ cellsFrom h.objs.size names acc ->
  (x,c) ∈ acc\/((x,.cell) ∈ names/\h.objs.size<=c/\CellAt (pushCells h names) c none)
 | [],_,_,_,_,h=>.inl h
 | (n,k)::r,h,acc,x,c,hm=>by
  unfold cellsFrom at hm
  unfold pushCells
  split at hm
  ·rename_i hk
   rw [if_pos hk]
   have hk:k=.cell:=by simpa using hk
   rw [<-Heap.size_push h { cls:=.type "cell",data:=.cell none }] at hm
   rcases cells_mem hm with hm | ⟨h1,h2,h3⟩
   ·rcases List.mem_cons.mp hm with e | hm
    ·cases e
     exact .inr ⟨hk ▸ List.mem_cons_self,Nat.le_refl _,_,pushCells_keeps r _ _ _ (Heap.get?_push_size _ rfl),rfl⟩
    ·exact .inl hm
   ·rw [Heap.size_push] at h2
    exact .inr ⟨List.mem_cons_of_mem _ h1,Nat.le_of_succ_le h2,h3⟩
  ·rename_i hk
   rw [if_neg hk]
   rcases cells_mem hm with hm | ⟨h1,h2,h3⟩
   ·exact .inl hm
   ·exact .inr ⟨List.mem_cons_of_mem _ h1,h2,h3⟩
theorem cells_acc:∀ {names:List (Str × NameKind)} {n:Nat} {acc:List (Str × Addr)} {p:Str × Addr},p ∈ acc->p ∈ cellsFrom n names acc
 | [],_,_,_,h=>h
 | (m,k)::r,n,acc,p,h=>by
  unfold cellsFrom
  split
  ·exact cells_acc (List.mem_cons_of_mem _ h)
  ·exact cells_acc h
theorem cells_has:∀ {names:List (Str × NameKind)} {n:Nat} {acc:List (Str × Addr)} {x:Str},(x,.cell) ∈ names->∃ c,(x,c) ∈ cellsFrom n names acc
 | (m,k)::r,n,acc,x,h=>by
  unfold cellsFrom
  rcases List.mem_cons.mp h with e | h
  ·cases e
   exact ⟨n,cells_acc List.mem_cons_self⟩
  ·split
   ·exact cells_has h
   ·exact cells_has h
theorem cells_inj:∀ {names:List (Str × NameKind)} {h:Heap} {acc:List (Str × Addr)} {x y:Str} {c:Addr},(∀ p ∈ acc,p.2<h.objs.size)->(∀ x y c,(x,c) ∈ acc->(y,c) ∈ acc->x=y) ->
  (x,c) ∈ cellsFrom h.objs.size names acc->(y,c) ∈ cellsFrom h.objs.size names acc->x=y
 | [],_,_,_,_,_,_,hi,h1,h2=>hi _ _ _ h1 h2
 | (n,k)::r,h,acc,x,y,c,hl,hi,h1,h2=>by
  unfold cellsFrom at h1 h2
  split at h1
  ·rename_i hk
   rw [if_pos hk] at h2
   rw [<-Heap.size_push h { cls:=.type "cell",data:=.cell none }] at h1 h2
   refine cells_inj (h:=h.push _) (fun p hp=>?_) (fun x y c a b=>?_) h1 h2
   ·rw [Heap.size_push]
    rcases List.mem_cons.mp hp with rfl | hp
    ·exact Nat.lt_succ_self _
    ·exact Nat.lt_succ_of_lt (hl p hp)
   ·rcases List.mem_cons.mp a with e | a <;> rcases List.mem_cons.mp b with e' | b
    ·cases e;cases e';rfl
    ·cases e;exact absurd (hl _ b) (Nat.lt_irrefl _)
    ·cases e';exact absurd (hl _ a) (Nat.lt_irrefl _)
    ·exact hi _ _ _ a b
  ·rename_i hk
   rw [if_neg hk] at h2
   exact cells_inj hl hi h1 h2
theorem newEnv_comp {M:Model} {A:Around} {E:Value->Shared->Prop} {s:Shared} {scope:Scope} {globals:Addr} {closure:List (Str × Addr)} {qual:Str} {func:Option Addr} {code:Value} {around:Env} {builtins:Addr} {Q:Env->Shared->Prop}
  (h:Q (newEnv scope s.heap.objs.size globals (cellsFrom (s.heap.objs.size+1) scope.names closure) qual func code (some around) builtins)
   { s with heap:=pushCells (s.heap.push { cls:=.type "dict",data:=.dict #[] }) scope.names }) :
  wpAny M A (newFunctionEnv scope globals closure [] qual func code (some around) builtins) Q E s:=by
 simp only [newFunctionEnv,Option.isSome_some,if_true]
 refine wpAny_bind (wpAny_alloc ?_)
 refine wpAny_bind (wpAny_layCells _ (fun n k c=>rfl) scope.names closure _ _ ?_)
 rw [show ({ s with heap:=s.heap.push { cls:=.type "dict",data:=.dict #[] } }:Shared).heap.objs.size=s.heap.objs.size+1 from Heap.size_push ..]
 rw [List.forIn_nil]
 exact wpAny_bind (wpAny_pure (wpAny_pure h))
theorem lookup_relS {sc:Scope}:∀ {names:List (Str × NameKind)} {x:Str} {k:NameKind},
  (names.map fun (n,k)=>if (k==NameKind.free && sc.kind==.function && sc.names.lookup n==some .cell) then (n,NameKind.cell) else (n,k)).lookup x=some k ->
  ∃ k',names.lookup x=some k'/\(k=k'\/(k'=.free/\k=.cell))
 | [],_,_,h=>by simp at h
 | (n,k₀)::r,x,k,h=>by
  have ih:=@lookup_relS sc r x k
  have h':List.lookup x ((if (k₀==NameKind.free && sc.kind==.function && sc.names.lookup n==some .cell)=true then (n,NameKind.cell) else (n,k₀))::(r.map _))=some k:=h
  cases hx:x==n with
  | true=>
   simp only [List.lookup_cons,hx]
   by_cases hc:(k₀==NameKind.free && sc.kind==.function && sc.names.lookup n==some .cell)=true
   ·rw [if_pos hc] at h'
    simp only [List.lookup_cons,hx] at h'
    cases h'
    simp only [Bool.and_eq_true,beq_iff_eq] at hc
    exact ⟨k₀,rfl,.inr ⟨hc.1.1,rfl⟩⟩
   ·rw [if_neg hc] at h'
    simp only [List.lookup_cons,hx] at h'
    cases h'
    exact ⟨_,rfl,.inl rfl⟩
  | false=>
   simp only [List.lookup_cons,hx]
   by_cases hc:(k₀==NameKind.free && sc.kind==.function && sc.names.lookup n==some .cell)=true
   ·rw [if_pos hc] at h'
    simp only [List.lookup_cons,hx] at h'
    exact ih h'
   ·rw [if_neg hc] at h'
    simp only [List.lookup_cons,hx] at h'
    exact ih h'
structure BlkOk (N:List Str) (sc scope:Scope) (own:List (Str × Nat)):Prop where
 kind:scope.kind=.function
 uniq:∀ y ∈ scope.names,scope.names.lookup y.1=some y.2
 ix:∀ p ∈ own,N[p.2]?=some p.1
 free:∀ y ∈ scope.names,y.2=.free->sc.names.lookup y.1=some .cell\/sc.names.lookup y.1=some .free
 own:∀ y ∈ scope.names,y.2=.local\/y.2=.cell->y.1 ∈ own.map (·.1)\/y.1 ∉ N
def wipe (σ:St):List Nat->St
 | []=>σ
 | v::vs=>(wipe σ vs).set v none
theorem wipe_length (σ:St):∀ vs:List Nat,(wipe σ vs).length=σ.length
 | []=>rfl
 | v::vs=>by unfold wipe;rw [List.length_set,wipe_length σ vs]
theorem wipe_some {σ:St} {i:Nat} {x:V}:∀ {vs:List Nat},(wipe σ vs)[i]?=some (some x)->σ[i]?=some (some x)/\i ∉ vs
 | [],h=>⟨h,by simp⟩
 | v::vs,h=>by
  unfold wipe at h
  by_cases hi:v=i
  ·subst hi
   by_cases hv:v<(wipe σ vs).length
   ·rw [List.getElem?_set_self hv] at h;cases h
   ·rw [List.getElem?_eq_none (by simpa using hv)] at h;cases h
  ·rw [List.getElem?_set_ne hi] at h
   obtain ⟨h1,h2⟩:=wipe_some h
   exact ⟨h1,by simp only [List.mem_cons,not_or];exact ⟨fun e=>hi e.symm,h2⟩⟩
abbrev Cx.blk (X:Cx) (s:Shared) (H:Hp) (scope:Scope) (cenv:Env) (fp:List Addr):Cx:={ X with s_0:=s,H_0:=H,env:=cenv,outer:=X.stack,ex:=fp,fn:=fun x=>scope.names.lookup x==some .cell,pn:=[],xe:=fun _ _=>False }
section
variable {X:Cx} {pins:List (Addr × Obj)} {σ:St} {H:Hp} {s:Shared}
theorem block_start {scope:Scope} {own:List (Str × Nat)} {fp:List Addr} (I:Inv X pins σ H s) (ok:BlkOk X.N X.env.scope scope own) (hN:X.N.Nodup) (hfp:∀ b ∈ fp,FpOk X pins H b/\b<s.heap.objs.size) :
  Inv (X.blk s H scope (compEnvC scope (cellsFrom (s.heap.objs.size+1) scope.names (cloFrom X.env.cells scope.names [])) s.heap.objs.size X.env) fp) [] (wipe σ (own.map (·.2))) H { s with heap:=pushCells (s.heap.push { cls:=.type "dict",data:=.dict #[] }) scope.names }:=by
 have hfree:∀ y ∈ scope.names,y.2=.free->∃ c,X.env.cells.lookup y.1=some c:=fun y hy e=>by
  rcases ok.free y hy e with k | k
  ·exact I.ok.has _ (.inl k)
  ·exact I.ok.has _ (.inr k)
 generalize hcenv:compEnvC scope (cellsFrom (s.heap.objs.size+1) scope.names (cloFrom X.env.cells scope.names [])) s.heap.objs.size X.env=cenv
 have kp:∀ b o,s.heap.get? b=some o->(pushCells (s.heap.push { cls:=.type "dict",data:=.dict #[] }) scope.names).get? b=some o:=fun b o e=>pushCells_keeps _ _ _ _ (Heap.get?_push_of_some _ e)
 have hL:cenv.locals=s.heap.objs.size:=by rw [<-hcenv];rfl
 have hcl:cenv.cells=cellsFrom (s.heap.objs.size+1) scope.names (cloFrom X.env.cells scope.names []):=by rw [<-hcenv];rfl
 have hsc:cenv.scope=relS scope X.env.scope:=by rw [<-hcenv];rfl
 rw [<-Heap.size_push s.heap { cls:=.type "dict",data:=.dict #[] }] at hcl
 have cm:∀ {y c},(y,c) ∈ cloFrom X.env.cells scope.names []->X.env.cells.lookup y=some c/\c<s.heap.objs.size:=fun {y c} hm=>by
  rcases cloFrom_mem hm with hm | ⟨h1,rfl⟩
  ·cases hm
  ·obtain ⟨c,hc⟩:=hfree _ h1 rfl
   rw [hc]
   obtain ⟨w,z⟩:=I.cell _ _ hc
   exact ⟨rfl,z.lt⟩
 have mem:∀ {y c},cenv.cells.lookup y=some c->(X.env.cells.lookup y=some c/\c<s.heap.objs.size)\/(s.heap.objs.size+1<=c/\CellAt (pushCells (s.heap.push { cls:=.type "dict",data:=.dict #[] }) scope.names) c none):=fun {y c} e=>by
  rw [hcl] at e
  rcases cells_mem (PySem.mem_of_lookup e) with hm | ⟨_,h2,h3⟩
  ·exact .inl (cm hm)
  ·rw [Heap.size_push] at h2;exact .inr ⟨h2,h3⟩
 have look:∀ {y},scope.names.lookup y=some .free->∃ c,cenv.cells.lookup y=some c/\X.env.cells.lookup y=some c:=fun {y} hl=>by
  have hy:(y,NameKind.free) ∈ scope.names:=PySem.mem_of_lookup hl
  obtain ⟨c',e'⟩:=mem_lookup (cells_acc (names:=scope.names) (n:=(s.heap.push { cls:=.type "dict",data:=.dict #[] }).objs.size) (cloFrom_has (cells:=X.env.cells) (acc:=[]) hy))
  rw [<-hcl] at e'
  refine ⟨c',e',?_⟩
  rw [hcl] at e'
  rcases cells_mem (PySem.mem_of_lookup e') with hm | ⟨h1,_,_⟩
  ·exact (cm hm).1
  ·have:=ok.uniq _ h1
   rw [hl] at this;cases this
 have okB:(X.blk s H scope cenv fp).Ok:=by
  refine ⟨I.ok.mod,by show cenv.scope.kind=_;rw [hsc];exact ok.kind,by show cenv.globals=_;rw [<-hcenv];exact I.ok.glob,by show cenv.builtins=_;rw [<-hcenv];exact I.ok.blt,by show s.heap.objs.size<=cenv.locals;rw [hL];exact Nat.le_refl _,
   fun y z c e1 e2=>?_,fun y hy=>?_,fun y c z e=>?_,I.ok.hd,I.ok.frames,.inl rfl,fun b hb=>⟨?_,fun y c e z=>?_⟩,I.bs,Nat.le_trans I.ok.bsz I.sz,fun b o e hb=>?_,fun b hb z=>?_,I.stack,I.stkFree⟩
  ·have e1:cenv.cells.lookup y=some c:=e1
   have e2:cenv.cells.lookup z=some c:=e2
   rw [hcl] at e1 e2
   refine cells_inj (fun p hp=>?_) (fun y z c a b=>I.ok.inj y z c (cm a).1 (cm b).1) (PySem.mem_of_lookup e1) (PySem.mem_of_lookup e2)
   rw [Heap.size_push]
   exact Nat.lt_succ_of_lt (cm (y:=p.1) (c:=p.2) hp).2
  ·show ∃ c,cenv.cells.lookup y=some c
   have key:∀ k,cenv.kindOf y=some k->(k=.cell\/k=.free)->∃ c,cenv.cells.lookup y=some c:=fun k hk hk'=>by
    unfold Env.kindOf at hk
    rw [hsc] at hk
    obtain ⟨k',e,r⟩:=lookup_relS hk
    have:k'=.cell\/k'=.free:=by
     rcases r with rfl | ⟨rfl,_⟩
     ·exact hk'
     ·exact .inr rfl
    rcases this with rfl | rfl
    ·obtain ⟨c,hm⟩:=cells_has (n:=(s.heap.push { cls:=.type "dict",data:=.dict #[] }).objs.size) (acc:=cloFrom X.env.cells scope.names []) (PySem.mem_of_lookup e)
     obtain ⟨c',e'⟩:=mem_lookup hm
     exact ⟨c',by rw [hcl];exact e'⟩
    ·obtain ⟨c,h1,_⟩:=look e
     exact ⟨c,h1⟩
   rcases hy with hy | hy
   ·exact key _ hy (.inl rfl)
   ·exact key _ hy (.inr rfl)
  ·have z:(scope.names.lookup y==some NameKind.cell)=true:=z
   have z:scope.names.lookup y=some .cell:=by simpa using z
   have e:cenv.cells.lookup y=some c:=e
   rw [hcl] at e
   rcases cells_mem (PySem.mem_of_lookup e) with hm | ⟨_,h2,_⟩
   ·rcases cloFrom_mem hm with hm | ⟨h1,_⟩
    ·cases hm
    ·have q:=ok.uniq _ h1
     rw [z] at q;cases q
   ·rw [Heap.size_push] at h2
    exact Nat.le_of_succ_le h2
  ·show b ≠ cenv.locals
   rw [hL];exact Nat.ne_of_lt (hfp b hb).2
  ·have e:cenv.cells.lookup y=some c:=e
   rcases mem e with ⟨h1,_⟩ | ⟨h1,_⟩
   ·exact (hfp b hb).1.2.2.2.2.1 y c h1 z
   ·have h2:s.heap.objs.size+1<=b:=by rw [<-z];exact h1
    exact absurd (Nat.lt_of_lt_of_le (hfp b hb).2 (Nat.le_of_succ_le h2)) (Nat.lt_irrefl _)
  ·rcases (hfp b hb).1.2.2.2.1 with z | z
   ·exact I.ok.noex b o e z
   ·exact absurd (Nat.lt_of_lt_of_le (Heap.lt_size e) (Nat.le_trans I.ok.bsz z)) (Nat.lt_irrefl _)
  ·rcases List.mem_cons.mp (I.stkSub b z) with z | z
   ·exact (hfp b hb).1.2.1 z
   ·exact (hfp b hb).1.2.2.1 z
 refine ⟨okB,rfl,I.bare,Un.kept kp,⟨fun _=>none,?_,fun i y av e1 e2 e3=>?_⟩,fun y c e=>?_,?_,fun y c e=>?_,fun p hp=>?_,I.hok.kept kp,by rw [wipe_length];exact I.len⟩
 ·show Heap.Ns _ cenv.locals _
  rw [hL]
  exact Heap.Ns.keeps (Heap.Ns.new ..) fun b o e=>pushCells_keeps _ _ _ _ e
 ·obtain ⟨e2,hne⟩:=wipe_some e2
  have hfr:scope.names.lookup y=some .free/\(cenv.kindOf y=some .cell\/cenv.kindOf y=some .free):=by
   have key:∀ k,cenv.scope.names.lookup y=some k->k=.local\/k=.cell\/k=.free->scope.names.lookup y=some .free/\(cenv.kindOf y=some .cell\/cenv.kindOf y=some .free):=fun k hk hk'=>by
    have hk0:=hk
    rw [hsc] at hk
    obtain ⟨k',e,r⟩:=lookup_relS hk
    have no:¬ (k'=.local\/k'=.cell):=fun hh=>by
     rcases ok.own _ (PySem.mem_of_lookup e) hh with e' | e'
     ·obtain ⟨p,hp,hpy⟩:=List.mem_map.mp e'
      have e3:=ok.ix p hp
      have:p.1=y:=hpy
      rw [this] at e3
      exact hne (List.mem_map.mpr ⟨p,hp,nodup_ix hN e3 e1⟩)
     ·exact e' (List.mem_of_getElem? e1)
    rcases r with rfl | ⟨rfl,rfl⟩
    ·rcases hk' with rfl | rfl | rfl
     ·exact absurd (.inl rfl) no
     ·exact absurd (.inr rfl) no
     ·exact ⟨e,.inr hk0⟩
    ·exact ⟨e,.inl hk0⟩
   have e3:Vis cenv.scope y:=e3
   rcases e3 with e3 | e3 | e3
   ·exact key _ e3 (.inl rfl)
   ·exact key _ e3 (.inr (.inl rfl))
   ·exact key _ e3 (.inr (.inr rfl))
  obtain ⟨m,hn,hl⟩:=I.loc
  have hvis:Vis X.env.scope y:=(ok.free _ (PySem.mem_of_lookup hfr.1) rfl).elim (fun k=>.inr (.inl k)) (fun k=>.inr (.inr k))
  obtain ⟨w,r,q⟩:=hl i y av e1 e2 hvis
  refine ⟨w,r,.inr ⟨hfr.2,?_⟩⟩
  obtain ⟨c,h1,h2⟩:=look hfr.1
  rcases q with ⟨k,_⟩ | ⟨_,c',e',z⟩
  ·have k:X.env.scope.names.lookup y=some .local:=k
   rcases ok.free _ (PySem.mem_of_lookup hfr.1) rfl with k' | k' <;> rw [show X.env.scope.names.lookup y=_ from k'] at k <;> cases k
  ·rw [h2] at e';cases e'
   exact ⟨c,h1,z.keeps kp⟩
 ·have e:cenv.cells.lookup y=some c:=e
  rcases mem e with ⟨h1,_⟩ | ⟨_,z⟩
  ·obtain ⟨w,z⟩:=I.cell y c h1
   exact ⟨w,z.keeps kp⟩
  ·exact ⟨_,z⟩
 ·show H cenv.locals=none
  rw [hL];exact I.hok.fresh (Nat.le_refl _)
 ·have e:cenv.cells.lookup y=some c:=e
  rcases mem e with ⟨h1,_⟩ | ⟨h1,_⟩
  ·exact I.freeC y c h1
  ·exact I.hok.fresh (Nat.le_of_succ_le h1)
 ·exact absurd (show p ∈ ([]:List (Addr × Obj))++[] from hp) (by simp)
theorem app_ok {E:Value->Shared->Prop} {D:Addr} {xs:List V} {y:V} {v:Value} {Q:Value->Shared->Prop} (I:Inv X pins σ H s) (hD:H D=some (.lst xs)) (hz:xs.length<sizeLine) (r:RelV y v)
  (h:∀ s',Inv X pins σ (upd H D (.lst (xs++[y]))) s'->Q .none s'):wpAny (model X.prog X.w) X.A (call (.builtin "list.append") [.ref D,v]) Q E s:=by
 obtain ⟨hz',its,n,ri,e⟩:=I.hok D _ hD
 have hl:=ri.length
 refine append_at (hsz:=by rw [List.size_toArray];omega) e fun h' sb ho'=>?_
 refine h { s with heap:=h' } (I.write (t':=s.toks) (by rw [hD];trivial) (.inl rfl) (fun b u hb q=>(sb.2 b hb).trans q) ⟨_,ho'⟩ ⟨by rw [List.length_append];exact hz,its++[v],n+1,ri.append (.cons r .nil),?_⟩)
 rw [ho']
 simp
def PTs (X:Cx) (ifs:List Expr) (t:TT):Prop:=
 ∀ (pins:List (Addr × Obj)) (s:Shared) (σ:St) (H:Hp) (Q:Bool->Hp->Prop),Inv X pins σ H s->t σ H Q ->
  wpAny (model X.prog X.w) X.A (forIn ifs true fun c r=>if r=true then do let ok <-isTrue c X.env (eval c X.env);pure (ForInStep.yield ok) else pure (ForInStep.yield r)) (TP X pins σ Q) X.xe s
def tYes:TT:=fun _ H Q=>Q true H
theorem pts_nil:PTs X [] tYes:=fun _ _ _ H _ I h=>wpAny_tests_nil ⟨H,I,h⟩
theorem pts_one {c:Expr} {t:TT} (h:PT X c t):PTs X [c] t:=fun pins s σ H Q I hw=>wpAny_tests_one (h pins s σ H Q I hw)
end
theorem thnF {α:Type} {t:Sem α} {Q Q':α->Shared->Prop} {M:Model} {A:Around} {E:Value->Shared->Prop} {s:Shared} (h:wpAny M A t Q (fun _ _=>False) s) (hQ:∀ a s,Q a s->Q' a s):wpAny M A t Q' E s:=wpAny_mono h hQ fun _ _ z=>False.elim z
theorem compLoop_any {prog:Program} {w:World} {A:Around} {R:Result->Shared->Prop} {s:Shared} {elt target iter:Expr} {ifs:List Expr} {scope:Scope} {pos:Pos} {it acc:Value} {env:Env} (I:Nat->Shared->Prop)
  (turn:∀ n s,I n s->wpAny (model prog w) A (pyNext it) (fun r s₁=>match r with
   | none=>R (.ok .next) s₁
   | some v=>wpAny (model prog w) A (letOwnedTupleGo target it v) (fun _ s₁'=>wpAny (model prog w) A (assign target env v) (fun _ s₂=>
     wpAny (model prog w) A (forIn ifs true fun c r=>if r=true then do let ok <-isTrue c env (eval c env);pure (ForInStep.yield ok) else pure (ForInStep.yield r)) (fun ok s₃=>
      if ok=true then wpAny (model prog w) A (eval elt env) (fun x s₄=>
       wpAny (model prog w) A (call (.builtin "list.append") [acc,x]) (fun _ s₅=>∃ m,m<n/\I m s₅) (notedBy (model prog w) A env fun e s'=>R (.error e) s') s₄) (notedBy (model prog w) A env fun e s'=>R (.error e) s') s₃
      else ∃ m,m<n/\I m s₃) (notedBy (model prog w) A env fun e s'=>R (.error e) s') s₂) (notedBy (model prog w) A env fun e s'=>R (.error e) s') s₁') (notedBy (model prog w) A env fun e s'=>R (.error e) s') s₁) (notedBy (model prog w) A env fun e s'=>R (.error e) s') s)
  (n:Nat) (h:I n s) :
  codeAny (model prog w) A (.compLoop (.ListComp elt [⟨target,iter,ifs,0⟩] scope pos) 0 it acc env) R s:=by
 refine codeAny_loop rfl I (fun n s hI=>?_) n h
 show wpAny _ A ((compTurn (.ListComp elt [⟨target,iter,ifs,0⟩] scope pos) 0 it acc env).onRaise (fun x=>do noteFrame x env;theTreesLotGoes x)) _ _ s
 refine wpAny_noted ?_
 rw [compTurn_list]
 refine wpAny_bind (wpAny_standAt (wpAny_bind (wpAny_mono (turn n s hI) (fun r s₁ h₁=>?_) fun _ _ h'=>h')))
 cases r with
 | none=>exact wpAny_pure h₁
 | some v=>
  refine wpAny_bind (wpAny_mono h₁ (fun _ s₁' h₁'=>?_) fun _ _ h'=>h')
  refine wpAny_bind (wpAny_mono h₁' (fun _ s₂ h₂=>wpAny_bind (wpAny_mono h₂ (fun ok s₃ h₃=>?_) fun _ _ h'=>h')) fun _ _ h'=>h')
  cases ok with
  | false=>exact wpAny_pure ⟨rfl,h₃⟩
  | true=>
   exact wpAny_bind (wpAny_bind (wpAny_mono h₃ (fun x s₄ h₄=>wpAny_bind (wpAny_mono h₄ (fun _ s₅ h₅=>wpAny_pure (wpAny_pure ⟨rfl,h₅⟩)) fun _ _ h'=>h')) fun _ _ h'=>h'))
section
variable {X:Cx}
def tLc (wi:TI) (g:TG) (tt:TT) (te:TE) (vs:List Nat):TE:=fun σ H Q=>wi σ H fun J H1=>∀ D,H1 D=none->∃ W:Nat->Nat->Hp->Prop,(∃ m,W 0 m (upd H1 D (.lst [])))/\∀ i m H,W i m H ->
 (J.stop i H/\Q (.ref D) H)\/(J.go i H/\∃ Nx:Hp->Prop,(∀ H',Nx H'->∃ m',m'<m/\W (i+1) m' H')/\∀ x H',J.yld i H x H'->g x (wipe σ vs) H' fun σ2 H2=>wipe σ2 vs=wipe σ vs/\tt σ2 H2 fun b H3=>
  if b=true then te σ2 H3 fun y H4=>∃ acc,H4 D=some (.lst acc)/\acc.length<sizeLine/\Nx (upd H4 D (.lst (acc++[y]))) else Nx H3)
theorem lc_core {pins:List (Addr × Obj)} {s:Shared} {σ:St} {H:Hp} {Q:VK} {elt tg iter:Expr} {ifs:List Expr} {scope:Scope} {own:List (Str × Nat)} {pos pos':Pos} {wi:TI} {g:TG} {tt:TT} {te:TE} {use:Option (Value->Sem Unit)} {Qf:Value->Shared->Prop}
  (hc:X.calm=true) (hN:X.N.Nodup) (I:Inv X pins σ H s) (hi:PI X tg iter wi) (ok:BlkOk X.N X.env.scope scope own)
  (hg:∀ (s:Shared) (H:Hp) (C:Addr) (cl:List (Str × Addr)) (fp:List Addr),PG (X.blk s H scope (compEnvC scope cl C X.env) fp) tg g) (ht:∀ (s:Shared) (H:Hp) (C:Addr) (cl:List (Str × Addr)) (fp:List Addr),PTs (X.blk s H scope (compEnvC scope cl C X.env) fp) ifs tt)
  (he:∀ (s:Shared) (H:Hp) (C:Addr) (cl:List (Str × Addr)) (fp:List Addr),PE (X.blk s H scope (compEnvC scope cl C X.env) fp) elt te) (hs:∀ x,foldedSetIterable iter X.env x=pure x)
  (h:tLc wi g tt te (own.map (·.2)) σ H Q)
  (hRR:∀ D C s' m H',Inv X pins σ H' s'->Q (.ref D) H'->s'.heap.Ns C m->FpOk X pins H' C->compPost (model X.prog X.w) X.A X.xe use Qf (.ref D) C (.ok .next) s') :
  wpAny (model X.prog X.w) X.A (comprehension (.ListComp elt [⟨tg,iter,ifs,0⟩] scope pos) scope X.env pos' (newList []) false (eval iter X.env) use) Qf X.xe s:=by
 have hfree:∀ y ∈ scope.names,y.2=.free->∃ c,X.env.cells.lookup y.1=some c:=fun y hy e=>by
  rcases ok.free y hy e with k | k
  ·exact I.ok.has _ (.inl k)
  ·exact I.ok.has _ (.inr k)
 refine wpAny_comprehension_free (use:=use) rfl hs (closure_ok hfree) ok.kind (fun y hy e=>by rw [ok.uniq y hy,e])
  (thn (hi pins s σ H _ I h) fun xv s1 hx=>thn hx fun itv s2 h2=>?_)
 obtain ⟨it,fp,tn,J,H2,e,I2,T,st2,f2,q⟩:=h2
 subst e
 refine wpAny_newObj_type (newEnv_comp ?_) (by show 0<=sizeLine;decide)
 generalize hD:s2.heap.objs.size=D
 have hDn:H2 D=none:=I2.hok.fresh (Nat.le_of_eq hD)
 obtain ⟨W,⟨m0,w0⟩,turn⟩:=q D hDn
 generalize hs3:({ s2 with heap:=s2.heap.push { cls:=.type "list",data:=.seq ([]:List Value).toArray } }:Shared)=s3
 have I3:Inv X pins σ (upd H2 D (.lst [])) s3:=by
  rw [<-hs3]
  refine I2.laid (t':=s2.toks) (fun b o e=>Heap.get?_push_of_some _ e) (Nat.le_of_eq hD) ⟨Nat.zero_le _,[],0,.nil,?_⟩
  rw [<-hD]
  exact Heap.get?_push_size _ rfl
 have h3:s3.heap=s2.heap.push { cls:=.type "list",data:=.seq ([]:List Value).toArray }:=by rw [<-hs3]
 have sz:∀ b ∈ fp,b<s2.heap.objs.size:=fun b hb=>by
  obtain ⟨o,e,_⟩:=T.obj _ _ st2 b hb
  exact Heap.lt_size e
 have f3:∀ b ∈ fp,FpOk X pins (upd H2 D (.lst [])) b/\b<s3.heap.objs.size:=fun b hb=>by
  have hlt:=sz b hb
  refine ⟨⟨?_,(f2 b hb).2⟩,by rw [h3,Heap.size_push];exact Nat.lt_succ_of_lt hlt⟩
  rw [upd_ne (by rw [<-hD];exact Nat.ne_of_lt hlt)]
  exact (f2 b hb).1
 have st3:tn 0 s3.heap:=T.keep _ _ _ st2 fun b _ o e=>by rw [h3];exact Heap.get?_push_of_some _ e
 have I4:=block_start I3 ok hN f3
 have pg:=hg s3 (upd H2 D (.lst [])) s3.heap.objs.size (cellsFrom (s3.heap.objs.size+1) scope.names (cloFrom X.env.cells scope.names [])) fp
 have pt:=ht s3 (upd H2 D (.lst [])) s3.heap.objs.size (cellsFrom (s3.heap.objs.size+1) scope.names (cloFrom X.env.cells scope.names [])) fp
 have pe:=he s3 (upd H2 D (.lst [])) s3.heap.objs.size (cellsFrom (s3.heap.objs.size+1) scope.names (cloFrom X.env.cells scope.names [])) fp
 show codeAny _ _ (.compStart (.ListComp elt [⟨tg,iter,ifs,0⟩] scope pos) 0 (.ref it) (.ref D) (compEnvC scope (cellsFrom (s3.heap.objs.size+1) scope.names (cloFrom X.env.cells scope.names [])) s3.heap.objs.size X.env)) (compPost (model X.prog X.w) X.A X.xe use Qf (.ref D) s3.heap.objs.size) { s3 with heap:=pushCells (s3.heap.push { cls:=.type "dict",data:=.dict #[] }) scope.names }
 have nfp:∀ b ∈ fp,(upd H2 D (.lst [])) b=none:=fun b hb=>(f3 b hb).1.1
 generalize hce:compEnvC scope (cellsFrom (s3.heap.objs.size+1) scope.names (cloFrom X.env.cells scope.names [])) s3.heap.objs.size X.env=ce at I4 pg pt pe ⊢
 have cL:ce.locals=s3.heap.objs.size:=by subst hce;rfl
 generalize hH3:upd H2 D (.lst [])=H3 at I3 I4 pg pt pe w0 nfp f3
 generalize hs4:({ s3 with heap:=pushCells (s3.heap.push { cls:=.type "dict",data:=.dict #[] }) scope.names }:Shared)=s4 at I4 ⊢
 have st4:tn 0 s4.heap:=T.keep _ _ _ st3 fun b _ o e=>by rw [<-hs4];exact pushCells_keeps _ _ _ _ (Heap.get?_push_of_some _ e)
 have stat:∀ {σ':St} {H':Hp} {s':Shared},Inv (X.blk s3 H3 scope ce fp) [] σ' H' s'->(∀ b ∈ fp,H' b=none)->∀ b ∈ fp,FpOk (X.blk s3 H3 scope ce fp) [] H' b:=fun {σ' H' s'} I' hn b hb=>
  ⟨hn b hb,(I'.ok.exf b hb).1,I'.ok.exfs b hb,.inl hb,fun x c e=>(I'.ok.exf b hb).2 x c e,fun p hp=>absurd (show p ∈ ([]:List (Addr × Obj))++[] from hp) (by simp)⟩
 have loop:codeAny (model X.prog X.w) X.A (.compLoop (.ListComp elt [⟨tg,iter,ifs,0⟩] scope pos) 0 (.ref it) (.ref D) ce) (compPost (model X.prog X.w) X.A X.xe use Qf (.ref D) s3.heap.objs.size) s4:=by
  refine compLoop_any (fun n s'=>∃ i H',Inv (X.blk s3 H3 scope ce fp) [] (wipe σ (own.map (·.2))) H' s'/\tn i s'.heap/\(∀ b ∈ fp,H' b=none)/\W i n H') ?_ m0 ⟨0,H3,I4,st4,nfp,w0⟩
  rintro n s5 ⟨i,H5,I5,st5,n5,w5⟩
  rcases turn i n H5 w5 with ⟨stop,qq⟩ | ⟨go,Nx,hNx,step⟩
  ·have td:=T.done (X.blk s3 H3 scope ce fp) rfl rfl rfl hc i [] s5 _ H5 (fun _ _=>False) I5 (stat I5 n5) st5 stop
   refine thnF td fun r s6 ⟨hr,I6⟩=>?_
   subst hr
   have I7:Inv X pins σ H5 s6:=I3.call' (ch:=fp) I6.os I6.base I6.hok I6.bare fun b hb=>⟨(f3 b hb).1.2.2.2.1,(f3 b hb).1.2.1,(f3 b hb).1.2.2.2.2.1,(f3 b hb).1.2.2.2.2.2⟩
   have nC:H5 s3.heap.objs.size=none:=by
    have z:H5 ce.locals=none:=I6.free
    rw [cL] at z
    exact z
   obtain ⟨m,hn,_⟩:=I6.loc
   have hn:s6.heap.Ns ce.locals m:=hn
   rw [cL] at hn
   exact hRR D s3.heap.objs.size s6 m H5 I7 qq hn (I3.fpOk (Nat.le_refl _) nC)
  ·have ti:=T.item (X.blk s3 H3 scope ce fp) rfl rfl rfl hc i [] s5 _ H5 (fun _ _=>False) I5 (stat I5 n5) st5 go
   refine thnF ti fun r s6 ⟨u,hr,h6⟩=>?_
   subst hr
   refine thnF h6 fun _ s7 ⟨x,H7,I7,r7,y7,st7,n7⟩=>?_
   have I7':=I7.pinned (stat I7 n7) (T.obj _ _ st7)
   refine thnF (pg _ s7 _ H7 x u _ I7' r7 (step x H7 y7)) fun _ s8 ⟨σ8,H8,I8,hw8,q8⟩=>?_
   refine thnF (pt _ s8 σ8 H8 _ I8 q8) fun b s9 ⟨H9,I9,q9⟩=>?_
   have fin:∀ {s':Shared} {H':Hp},Inv (X.blk s3 H3 scope ce fp) ([]++pinsAt fp s7.heap) σ8 H' s'->Nx H'->∃ m,m<n/\∃ i H',Inv (X.blk s3 H3 scope ce fp) [] (wipe σ (own.map (·.2))) H' s'/\tn i s'.heap/\(∀ b ∈ fp,H' b=none)/\W i m H':=fun {s' H'} I' nx=>by
    obtain ⟨m',hm,w'⟩:=hNx H' nx
    have pin':∀ b ∈ fp,∀ o,s7.heap.get? b=some o->s'.heap.get? b=some o/\H' b=none:=fun b hb o e=>
     let z:=I'.pin (b,o) (List.mem_append_right _ (List.mem_append_right _ (mem_pinsAt hb e)))
     ⟨z.1,z.2.1⟩
    have hl:(wipe σ (own.map (·.2))).length=σ8.length:=by rw [<-hw8,wipe_length]
    refine ⟨m',hm,i+1,H',(I'.unpinned (pins:=[])).weak hl (fun j v e=>?_),T.keep _ _ _ st7 fun b hb o e=>(pin' b hb o e).1,fun b hb=>?_,w'⟩
    ·rw [<-hw8] at e
     exact (wipe_some e).1
    ·obtain ⟨o,e,_⟩:=T.obj _ _ st7 b hb
     exact (pin' b hb o e).2
   cases b with
   | false=>
    simp only [Bool.false_eq_true,if_false] at q9 ⊢
    exact fin I9 q9
   | true=>
    simp only [if_true] at q9 ⊢
    refine thnF (pe _ s9 σ8 H9 _ I9 q9) fun z s10 ⟨yv,H10,I10,r10,acc,hD10,hz10,nx⟩=>?_
    exact app_ok (X:=X.blk s3 H3 scope ce fp) I10 hD10 hz10 r10 fun s11 I11=>fin I11 nx
 exact codeAny_compStart_list loop (T.self X.A 0 _ _ _ st4 loop)
theorem pe_lc {elt tg iter:Expr} {ifs:List Expr} {scope:Scope} {own:List (Str × Nat)} {pos:Pos} {wi:TI} {g:TG} {tt:TT} {te:TE} (hc:X.calm=true) (hN:X.N.Nodup) (hi:PI X tg iter wi) (ok:BlkOk X.N X.env.scope scope own)
  (hg:∀ (s:Shared) (H:Hp) (C:Addr) (cl:List (Str × Addr)) (fp:List Addr),PG (X.blk s H scope (compEnvC scope cl C X.env) fp) tg g) (ht:∀ (s:Shared) (H:Hp) (C:Addr) (cl:List (Str × Addr)) (fp:List Addr),PTs (X.blk s H scope (compEnvC scope cl C X.env) fp) ifs tt)
  (he:∀ (s:Shared) (H:Hp) (C:Addr) (cl:List (Str × Addr)) (fp:List Addr),PE (X.blk s H scope (compEnvC scope cl C X.env) fp) elt te) (hs:∀ x,foldedSetIterable iter X.env x=pure x:=by intro _;rfl) :
  PE X (.ListComp elt [⟨tg,iter,ifs,0⟩] scope pos) (tLc wi g tt te (own.map (·.2))):=by
 intro pins s σ H Q I h
 rw [eval_ListComp]
 refine lc_core hc hN I hi ok hg ht he hs h fun D C s' m H' I' q hn f=>⟨m,hn,fun h'' sb=>?_⟩
 obtain ⟨f0,f1,f2,f3,f4,f5⟩:=f
 exact ⟨.ref D,H',I'.turned (t':=s'.toks) (fun b o hb e=>(sb.2 b hb).trans e) f0 f1 f3 f4 f5,rfl,q⟩
theorem ps_setLc {i:Nat} {y:Str} {py:Pos} {elt tg iter:Expr} {ifs:List Expr} {scope:Scope} {own:List (Str × Nat)} {pos spos:Pos} {wi:TI} {g:TG} {tt:TT} {te:TE} (hc:X.calm=true) (hN:X.N.Nodup) (hy:X.N[i]?=some y) (hyl:X.env.scope.names.lookup y=some .local)
  (hsw:swapsWith (.ListComp elt [⟨tg,iter,ifs,0⟩] scope pos) (some (.Name y py)) spos.line X.env=pure true) (hi:PI X tg iter wi) (ok:BlkOk X.N X.env.scope scope own)
  (hg:∀ (s:Shared) (H:Hp) (C:Addr) (cl:List (Str × Addr)) (fp:List Addr),PG (X.blk s H scope (compEnvC scope cl C X.env) fp) tg g) (ht:∀ (s:Shared) (H:Hp) (C:Addr) (cl:List (Str × Addr)) (fp:List Addr),PTs (X.blk s H scope (compEnvC scope cl C X.env) fp) ifs tt)
  (he:∀ (s:Shared) (H:Hp) (C:Addr) (cl:List (Str × Addr)) (fp:List Addr),PE (X.blk s H scope (compEnvC scope cl C X.env) fp) elt te) (hs:∀ x,foldedSetIterable iter X.env x=pure x:=by intro _;rfl) :
  PS X (.Assign [.Name y py] (.ListComp elt [⟨tg,iter,ifs,0⟩] scope pos) spos) (tAsg (tLc wi g tt te (own.map (·.2))) (gName i)):=by
 intro pins s σ H D I h
 rw [exec_Assign_Name_used _ _ _ _ hsw]
 refine wpAny_bind (wpAny_standAt (wpAny_bind ?_))
 show wpAny _ X.A (do let _ <-comprehension (.ListComp elt [⟨tg,iter,ifs,0⟩] scope pos) scope X.env (firstIterPos [⟨tg,iter,ifs,0⟩] pos) (newList []) false (eval iter X.env) (some (assign (.Name y py) X.env))) _ _ s
 have h:tLc wi g tt te (own.map (·.2)) σ H (fun x H1=>gName i x σ H1 D.nx):=h
 refine wpAny_bind (thn (lc_core (Qf:=fun _ s'=>SP X pins D .next s') hc hN I hi ok hg ht he hs h fun L C s' m H' I' q hn f=>?_) fun _ s' hq=>wpAny_pure (wpAny_pure hq))
 show wpAny _ _ (assign (.Name y py) X.env (.ref L)) _ _ _
 refine wpAny_assign_Name (store_ok2 (v:=V.ref L) I' hN hy (.inl hyl) rfl (fun s2 I2 ⟨a,sb,ha⟩=>?_) (.inr hyl))
 obtain ⟨f0,f1,f2,f3,f4,f5⟩:=f
 have haC:C ≠ a:=by
  rcases ha with z | z
  ·rw [z];exact f1
  ·exact fun e=>f4 y a z e.symm
 refine ⟨m,hn.sameBut sb haC,fun h3 sb3=>?_⟩
 exact ⟨_,H',I2.turned (t':=s2.toks) (fun b o hb e=>(sb3.2 b hb).trans e) f0 f1 f3 f4 f5,q⟩
theorem sw_true {elt:Expr} {gs:List Comprehension} {scope:Scope} {pos py:Pos} {y:Str} {l:Nat} {env:Env} (hk:env.scope.kind=.function) (hy:env.scope.names.lookup y=some .local) (hl:(py.line==pos.line)=true)
  (ha:(scope.names.any fun (n,k)=>n==y && (k==.local || k==.cell))=false):swapsWith (.ListComp elt gs scope pos) (some (.Name y py)) l env=pure true:=by
 have ky:env.kindOf y=some .local:=hy
 have hb:env.blockKind=.function:=by unfold Env.blockKind;rw [hk];rfl
 unfold swapsWith
 simp only [hb,ky,ha,Expr.pos,hl]
 rfl
end
def blkC (N:List Str) (sc scope:Scope) (own:List (Str × Nat)):Bool:=
 (match scope.kind with | .function=>true | _=>false) && (scope.names.all fun y=>decide (scope.names.lookup y.1=some y.2)) && (own.all fun p=>decide (N[p.2]?=some p.1)) &&
  (scope.names.all fun y=>match y.2 with
   | .free=>(match sc.names.lookup y.1 with | some .cell=>true | some .free=>true | _=>false)
   | .local=>decide (y.1 ∈ own.map (·.1)) || decide (y.1 ∉ N)
   | .cell=>decide (y.1 ∈ own.map (·.1)) || decide (y.1 ∉ N)
   | _=>true)
theorem blkOk_by {N:List Str} {sc scope:Scope} {own:List (Str × Nat)} (h:blkC N sc scope own=true):BlkOk N sc scope own:=by
 unfold blkC at h
 simp only [Bool.and_eq_true,List.all_eq_true,decide_eq_true_eq] at h
 obtain ⟨⟨⟨h1,h2⟩,h3⟩,h4⟩:=h
 refine ⟨?_,h2,h3,fun y hy e=>?_,fun y hy e=>?_⟩
 ·split at h1
  ·assumption
  ·cases h1
 ·have q:=h4 y hy
  simp only [e] at q
  split at q <;> first | exact .inl (by assumption) | exact .inr (by assumption) | cases q
 ·have q:=h4 y hy
  rcases e with e | e <;> (simp only [e,Bool.or_eq_true,decide_eq_true_eq] at q;exact q)
end L2
namespace L2
open PySem PySem.Spec PyProof.Rows
end L2
namespace L2
open PySem PySem.Spec PyProof.Rows
section
variable {κ:Type} [DecidableEq κ]
def valV (kvs:List (κ × V)) (k:κ):Option V:=(kvs.find? fun kv=>decide (kv.1=k)).map (·.2)
def putK (kvs:List (κ × V)) (k:κ) (v:V):List (κ × V):=
 if (kvs.any fun kv=>decide (kv.1=k))=true then kvs.map (fun kv=>if kv.1=k then (kv.1,v) else kv) else kvs++[(k,v)]
theorem valV_pos {p:κ × V} {r:List (κ × V)} {k:κ} (e:p.1=k):valV (p::r) k=some p.2:=by simp [valV,List.find?_cons,e]
theorem valV_neg {p:κ × V} {r:List (κ × V)} {k:κ} (e:¬ p.1=k):valV (p::r) k=valV r k:=by simp [valV,List.find?_cons,e]
theorem valV_any (k:κ):∀ kvs:List (κ × V),(kvs.any fun kv=>decide (kv.1=k))=(valV kvs k).isSome
 | []=>rfl
 | p::r=>by
  rw [List.any_cons]
  by_cases e:p.1=k
  ·simp only [valV_pos e,decide_eq_true e,Bool.true_or,Option.isSome_some]
  ·rw [valV_neg e,decide_eq_false e,Bool.false_or];exact valV_any k r
theorem valV_map (k j:κ) (y:V):∀ kvs:List (κ × V),valV (kvs.map fun kv=>if kv.1=k then (kv.1,y) else kv) j=(valV kvs j).map fun x=>if j=k then y else x
 | []=>rfl
 | p::r=>by
  have ih:=valV_map k j y r
  rw [List.map_cons]
  by_cases h:p.1=k
  ·rw [if_pos h]
   by_cases e:p.1=j
   ·rw [valV_pos (p:=(p.1,y)) e,valV_pos e,Option.map_some,if_pos (e.symm.trans h)]
   ·rw [valV_neg (p:=(p.1,y)) e,valV_neg e,ih]
  ·rw [if_neg h]
   by_cases e:p.1=j
   ·rw [valV_pos (p:=p) e,valV_pos e,Option.map_some,if_neg (fun z=>h (e.trans z))]
   ·rw [valV_neg (p:=p) e,valV_neg e,ih]
theorem valV_snoc (k j:κ) (y:V):∀ kvs:List (κ × V),valV kvs k=none->valV (kvs++[(k,y)]) j=if j=k then some y else valV kvs j
 | [],_=>by
  by_cases e:k=j
  ·rw [if_pos e.symm];exact valV_pos (p:=(k,y)) e
  ·rw [if_neg (fun z=>e z.symm)];exact valV_neg (p:=(k,y)) e
 | p::r,hn=>by
  rw [List.cons_append]
  have hk:¬ p.1=k:=fun z=>by rw [valV_pos z] at hn;cases hn
  rw [valV_neg hk] at hn
  have ih:=valV_snoc k j y r hn
  by_cases e:p.1=j
  ·rw [valV_pos e,valV_pos e,if_neg (fun z=>hk (e.trans z))]
  ·rw [valV_neg e,valV_neg e,ih]
theorem valV_put (kvs:List (κ × V)) (k j:κ) (y:V):valV (putK kvs k y) j=if j=k then some y else valV kvs j:=by
 unfold putK
 by_cases a:(kvs.any fun kv=>decide (kv.1=k))=true
 ·rw [if_pos a,valV_map]
  rw [valV_any] at a
  by_cases e:j=k
  ·obtain ⟨x,hx⟩:=Option.isSome_iff_exists.mp a
   rw [if_pos e,e,hx,Option.map_some,if_pos rfl]
  ·rw [if_neg e]
   cases valV kvs j with
   | none=>rfl
   | some x=>rw [Option.map_some,if_neg e]
 ·rw [if_neg a]
  refine valV_snoc k j y kvs ?_
  rw [valV_any] at a
  cases q:valV kvs k with
  | none=>rfl
  | some x=>rw [q] at a;exact (a rfl).elim
theorem length_putK (kvs:List (κ × V)) (k:κ) (v:V):(putK kvs k v).length<=kvs.length+1:=by
 unfold putK
 split
 ·rw [List.length_map];omega
 ·rw [List.length_append,List.length_cons,List.length_nil];omega
theorem RelO.isSome_eq {o:Option V} {u:Option Value} (r:RelO o u):o.isSome=u.isSome:=by
 cases o with
 | none=>cases u with
  | none=>rfl
  | some _=>exact (show False from r).elim
 | some _=>cases u with
  | none=>exact (show False from r).elim
  | some _=>rfl
theorem RelO.getD {o:Option V} {u:Option Value} {d:V} {d':Value} (r:RelO o u) (rd:RelV d d'):RelV (o.getD d) (u.getD d'):=by
 cases o with
 | none=>cases u with
  | none=>exact rd
  | some _=>exact (show False from r).elim
 | some _=>cases u with
  | none=>exact (show False from r).elim
  | some _=>exact r
theorem KV.val {kvs:List (κ × V)} {vs:List (κ × Value)} (r:KV kvs vs) (k:κ):RelO (valV kvs k) (valueAt vs k):=by
 unfold KV at r
 induction r with
 | nil=>exact True.intro
 | @cons p q ps qs h t ih=>
  obtain ⟨h1,h2⟩:=h
  by_cases e:p.1=k
  ·have e':q.1=k:=h1.symm.trans e
   have b:valueAt (q::qs) k=some q.2:=by simp [valueAt,List.find?_cons,e']
   rw [valV_pos e,b];exact h2
  ·have e':¬ q.1=k:=fun z=>e (h1.trans z)
   have b:valueAt (q::qs) k=valueAt qs k:=by simp [valueAt,List.find?_cons,e']
   rw [valV_neg e,b];exact ih
theorem KV.any {kvs:List (κ × V)} {vs:List (κ × Value)} (r:KV kvs vs) (k:κ):(kvs.any fun kv=>decide (kv.1=k))=vs.any fun kv=>decide (kv.1=k):=by
 unfold KV at r
 induction r with
 | nil=>rfl
 | cons h t ih=>rw [List.any_cons,List.any_cons,ih,h.1]
theorem KV.repl {kvs:List (κ × V)} {vs:List (κ × Value)} (r:KV kvs vs) (k:κ) {y:V} {u:Value} (ry:RelV y u) :
  KV (kvs.map fun kv=>if kv.1=k then (kv.1,y) else kv) (vs.map fun kv=>if kv.1=k then (kv.1,u) else kv):=by
 unfold KV at r ⊢
 induction r with
 | nil=>exact .nil
 | @cons p q ps qs h t ih=>
  rw [List.map_cons,List.map_cons]
  refine .cons ?_ ih
  obtain ⟨h1,h2⟩:=h
  by_cases e:p.1=k
  ·rw [if_pos e,if_pos (h1.symm.trans e)];exact ⟨h1,ry⟩
  ·rw [if_neg e,if_neg (fun z=>e (h1.trans z))];exact ⟨h1,h2⟩
theorem KV.put {kvs:List (κ × V)} {vs:List (κ × Value)} (r:KV kvs vs) (k:κ) {y:V} {u:Value} (ry:RelV y u):KV (putK kvs k y) (stored vs k u):=by
 unfold putK stored
 rw [r.any k]
 by_cases e:(vs.any fun kv=>decide (kv.1=k))=true
 ·rw [if_pos e,if_pos e];exact r.repl k ry
 ·rw [if_neg e,if_neg e];exact Paired.snoc r ⟨rfl,ry⟩
theorem KV.length {kvs:List (κ × V)} {vs:List (κ × Value)} (r:KV kvs vs):kvs.length=vs.length:=Paired.length r
end
theorem kV_is {P:Program} {w:World} {k:Key} {u:Value} (r:RelV (kV k) u):(mixKind P w).is k u=true:=by
 cases k with
 | inl i=>obtain ⟨t,e⟩:=(show ∃ t,u=Value.int i t from r);subst e;exact mixKind_int P w i t
 | inr x=>obtain ⟨t,e⟩:=(show ∃ t,u=Value.str x t from r);subst e;exact mixKind_str P w x t
theorem items_are {P:Program} {w:World}:∀ {ks:List Key} {us:List Value},Vals (ks.map kV) us->ItemsAre (mixKind P w) ks us
 | [],_,r=>by rw [List.map_nil] at r;cases r;exact .nil
 | k::ks,_,r=>by
  rw [List.map_cons] at r
  cases r with
  | cons h t=>exact .cons (kV_is h) (items_are t)
abbrev KT (H:Hp):List (List Key × V)->List (List Key × Addr × Value)->Prop:=Paired fun p q=>p.1=q.1/\H q.2.1=some (.tup (p.1.map kV))/\RelV p.2 q.2.2
theorem KT.val {H:Hp} {kvs:List (List Key × V)} {xs:List (List Key × Addr × Value)} (r:KT H kvs xs) (k:List Key):RelO (valV kvs k) ((atKey xs k).map (·.2)):=by
 induction r with
 | nil=>exact True.intro
 | @cons p q ps qs h t ih=>
  obtain ⟨h1,_,h2⟩:=h
  by_cases e:p.1=k
  ·have e':q.1=k:=h1.symm.trans e
   have b:atKey (q::qs) k=some q.2:=by simp [atKey,List.find?_cons,e']
   rw [valV_pos e,b];exact h2
  ·have e':¬ q.1=k:=fun z=>e (h1.trans z)
   have b:atKey (q::qs) k=atKey qs k:=by simp [atKey,List.find?_cons,e']
   rw [valV_neg e,b];exact ih
theorem KT.repl {H:Hp} {kvs:List (List Key × V)} {xs:List (List Key × Addr × Value)} (r:KT H kvs xs) (k:List Key) {y:V} {u:Value} (ry:RelV y u) :
  KT H (kvs.map fun kv=>if kv.1=k then (kv.1,y) else kv) (xs.map (putAt k u)):=by
 induction r with
 | nil=>exact .nil
 | @cons p q ps qs h t ih=>
  rw [List.map_cons,List.map_cons]
  refine .cons ?_ ih
  obtain ⟨h1,h2,h3⟩:=h
  unfold putAt
  by_cases e:p.1=k
  ·rw [if_pos e,if_pos (h1.symm.trans e)];exact ⟨h1,h2,ry⟩
  ·rw [if_neg e,if_neg (fun z=>e (h1.trans z))];exact ⟨h1,h2,h3⟩
theorem KT.put {H:Hp} {kvs:List (List Key × V)} {xs:List (List Key × Addr × Value)} (r:KT H kvs xs) (k:List Key) {b:Addr} {y:V} {u:Value} (hb:H b=some (.tup (k.map kV))) (ry:RelV y u) :
  KT H (putK kvs k y) (storedH xs k b u):=by
 have e:(kvs.any fun kv=>decide (kv.1=k))=(atKey xs k).isSome:=by
  rw [valV_any,(r.val k).isSome_eq,Option.isSome_map]
 unfold putK storedH
 rw [e]
 by_cases q:(atKey xs k).isSome=true
 ·rw [if_pos q,if_pos q];exact r.repl k ry
 ·rw [if_neg q,if_neg q];exact Paired.snoc r ⟨rfl,hb,ry⟩
theorem KT.keeps {H H':Hp} {kvs:List (List Key × V)} {xs:List (List Key × Addr × Value)} (r:KT H kvs xs) (ht:∀ b ys,H b=some (.tup ys)->H' b=some (.tup ys)):KT H' kvs xs:=
 Paired.mapP r fun _ _ z=>⟨z.1,ht _ _ z.2.1,z.2.2⟩
section
variable {P:Program} {w:World} {H:Hp} {h:Heap} {a:Addr}
theorem rd_of {u:HO} (ok:HOk P w H h) (e:Rd H a u):ObjOk P w H h a u:=e.ok ok
theorem dk_rd {kvs:List (Key × V)} (ok:HOk P w H h) (e:Rd H a (.dK kvs)):kvs.length<=sizeLine/\(a==sysModules)=false/\∃ vs,KV kvs vs/\h.DictOf (mixKind P w) a vs:=
 show ObjOk P w H h a (.dK kvs) from rd_of ok e
theorem dk_of {kvs:List (Key × V)} (ok:HOk P w H h) (e:H a=some (.dK kvs)):kvs.length<=sizeLine/\(a==sysModules)=false/\∃ vs,KV kvs vs/\h.DictOf (mixKind P w) a vs:=dk_rd ok (.inl e)
theorem key_of {ks:List Key} (ok:HOk P w H h) (e:H a=some (.tup (ks.map kV))):(tupleKind (mixKind P w)).is h ks a:=by
 obtain ⟨_,its,r,o,h1,h2,n,h3⟩:=(show ObjOk P w H h a (.tup (ks.map kV)) from ok a _ e)
 exact ⟨o,its.toArray,n,h1,h2,h3,by simpa using items_are r⟩
theorem dt_rd {kvs:List (List Key × V)} (ok:HOk P w H h) (e:Rd H a (.dT kvs)):kvs.length<=sizeLine/\(a==sysModules)=false/\
  ∃ xs,KT H kvs xs/\h.DictOfH (tupleKind (mixKind P w)) a xs:=by
 obtain ⟨z,y,xs,r,o,es,ep,h1,h2,h3,h4,h5⟩:=(show ObjOk P w H h a (.dT kvs) from rd_of ok e)
 refine ⟨z,y,xs,r,o,es,ep,h1,h2,h3,h4,fun x hx=>?_,h5⟩
 have all:∀ {l:List (List Key × V)} {m:List (List Key × Addr × Value)},KT H l m->∀ x ∈ m,(tupleKind (mixKind P w)).is h x.1 x.2.1:=by
  intro l m q
  induction q with
  | nil=>intro x hx;exact nomatch hx
  | @cons p q ps qs hq t ih=>
   intro x hx
   rcases List.mem_cons.mp hx with e | hx
   ·subst e
    exact key_of ok (by rw [<-hq.1];exact hq.2.1)
   ·exact ih x hx
 exact all r x hx
theorem dt_of {kvs:List (List Key × V)} (ok:HOk P w H h) (e:H a=some (.dT kvs)):kvs.length<=sizeLine/\(a==sysModules)=false/\
  ∃ xs,KT H kvs xs/\h.DictOfH (tupleKind (mixKind P w)) a xs:=dt_rd ok (.inl e)
end
def DGet (H:Hp) (a:Addr) (y:V) (r:Option V):Prop:=
 (∃ kvs k,Rd H a (.dK kvs)/\y=kV k/\r=valV kvs k)\/∃ kvs k b,Rd H a (.dT kvs)/\y=.ref b/\H b=some (.tup (k.map kV))/\r=valV kvs k
def DPut (H:Hp) (a:Addr) (y v:V) (H':Hp):Prop:=
 (∃ kvs k,H a=some (.dK kvs)/\y=kV k/\kvs.length<sizeLine/\H'=upd H a (.dK (putK kvs k v))) ∨
 ∃ kvs k b,H a=some (.dT kvs)/\y=.ref b/\H b=some (.tup (k.map kV))/\kvs.length<sizeLine/\H'=upd H a (.dT (putK kvs k v))
theorem DGet.k {H:Hp} {a:Addr} {kvs:List (Key × V)} {k:Key} (e:H a=some (.dK kvs)):DGet H a (kV k) (valV kvs k):=.inl ⟨kvs,k,.inl e,rfl,rfl⟩
theorem DGet.t {H:Hp} {a b:Addr} {kvs:List (List Key × V)} {k:List Key} (e:H a=some (.dT kvs)) (eb:H b=some (.tup (k.map kV))):DGet H a (.ref b) (valV kvs k):=.inr ⟨kvs,k,b,.inl e,rfl,eb,rfl⟩
theorem DPut.k {H:Hp} {a:Addr} {kvs:List (Key × V)} {k:Key} {v:V} (e:H a=some (.dK kvs)) (hl:kvs.length<sizeLine):DPut H a (kV k) v (upd H a (.dK (putK kvs k v))):=.inl ⟨kvs,k,e,rfl,hl,rfl⟩
theorem DPut.t {H:Hp} {a b:Addr} {kvs:List (List Key × V)} {k:List Key} {v:V} (e:H a=some (.dT kvs)) (eb:H b=some (.tup (k.map kV))) (hl:kvs.length<sizeLine) :
  DPut H a (.ref b) v (upd H a (.dT (putK kvs k v))):=.inr ⟨kvs,k,b,e,rfl,eb,hl,rfl⟩
section
variable {X:Cx} {pins:List (Addr × Obj)} {σ:St} {H:Hp} {s:Shared} {a:Addr} {y v:V} {u r:Value} {o:Option V} {A:Around} {E:Value->Shared->Prop}
theorem Inv.big (I:Inv X pins σ H s):sysModules<s.heap.objs.size:=by
 have h:mainGlobals<s.heap.objs.size:=(I.mod.glob.keeps I.bk).lt
 exact Nat.lt_trans (by decide) h
theorem d_notIn {Q:Value->Shared->Prop} (hu:A.units+1<cLine) (I:Inv X pins σ H s) (g:DGet H a y o) (ry:RelV y u) (h:∀ s',Inv X pins σ H s'->Q (.bool (!o.isSome)) s') :
  wpAny (model X.prog X.w) A (compareOp .NotIn u (.ref a)) Q E s:=by
 rcases g with ⟨kvs,k,e,ey,l⟩ | ⟨kvs,k,b,e,ey,eb,l⟩
 ·subst ey
  obtain ⟨z,hd,vs,rel,dd⟩:=dk_rd I.hok e
  refine wpAny_notIn_of (kV_is ry) hd dd.mapOf ?_
  rw [<-(rel.val k).isSome_eq,<-l]
  exact h _ (I.tok _)
 ·subst ey
  cases (show u=Value.ref b from ry)
  obtain ⟨z,hd,xs,rel,dd⟩:=dt_rd I.hok e
  refine wpAny_notIn_heap (tupleKind_room_in1 hu) (key_of I.hok eb) hd dd ?_
  have q:=(rel.val k).isSome_eq
  rw [Option.isSome_map] at q
  rw [<-q,<-l]
  exact h _ (I.tok _)
theorem d_write {h':Heap} {t':Nat} {ob:HO} (I:Inv X pins σ H s) (mu:Mut (H a)) (hs:Heap.SameBut a s.heap h') (he:∃ q,h'.get? a=some q) (new:ObjOk X.prog X.w (upd H a ob) h' a ob) :
  Inv X pins σ (upd H a ob) { s with heap:=h',toks:=t' }:=
 I.write (x:=a) (e:=a) mu (.inl rfl) (fun b q hb z=>(hs.2 b hb).trans z) he new
theorem dk_new {P:Program} {w:World} {H':Hp} {h':Heap} {kvs:List (Key × V)} {vs:List (Key × Value)} (z:kvs.length<=sizeLine) (hd:(a==sysModules)=false) (rel:KV kvs vs) (dd:h'.DictOf (mixKind P w) a vs) :
  ObjOk P w H' h' a (.dK kvs):=⟨z,hd,vs,rel,dd⟩
theorem d_setItem {H':Hp} {Q:Unit->Shared->Prop} (hu:A.units+1<cLine) (I:Inv X pins σ H s) (g:DPut H a y v H') (ry:RelV y u) (rv:RelV v r) (h:∀ s',Inv X pins σ H' s'->Q () s') :
  wpAny (model X.prog X.w) A (setItem (.ref a) u r) Q E s:=by
 rcases g with ⟨kvs,k,e,ey,l,eH⟩ | ⟨kvs,k,b,e,ey,eb,l,eH⟩
 ·subst ey eH
  obtain ⟨z,hd,vs,rel,dd⟩:=dk_of I.hok e
  have hz:vs.length<=sizeLine:=by rw [<-rel.length];exact z
  have hl:(putK kvs k v).length<=sizeLine:=by have:=length_putK kvs k v;omega
  refine wpAny_setItem_pairs (hsz:=hz) (kV_is ry) dd fun h' dd' hs=>h _ ?_
  have he:∃ q,h'.get? a=some q:=let ⟨q,_,_,hq,_⟩:=dd';⟨q,hq⟩
  exact d_write I (by rw [e];exact True.intro) hs he (dk_new hl hd (rel.put k rv) dd')
 ·subst ey eH
  cases (show u=Value.ref b from ry)
  obtain ⟨z,hd,xs,rel,dd⟩:=dt_of I.hok e
  have hz:xs.length<=sizeLine:=by rw [<-Paired.length rel];exact z
  have hl:(putK kvs k v).length<=sizeLine:=by have:=length_putK kvs k v;omega
  refine wpAny_setItem_heap (hsz:=hz) (tupleKind_room_in1 hu) (key_of I.hok eb) dd fun h' dd' hs=>h _ ?_
  obtain ⟨q,es,ep,hq,h2,h3,h4,_,h5⟩:=dd'
  refine d_write I (by rw [e];exact True.intro) hs ⟨q,hq⟩ ⟨hl,hd,_,(rel.put k eb rv).keeps fun c ys ec=>?_,q,es,ep,hq,h2,h3,h4,h5⟩
  rw [upd_ne (ne_of ec e (fun z=>nomatch z))]
  exact ec
end
def tDNotIn (ty td:TE):TE:=fun σ H Q=>ty σ H fun y H1=>td σ H1 fun x H2=>∃ a o,x=.ref a/\DGet H2 a y o/\Q (.bl (!o.isSome)) H2
def sDPut (td ty tv:TE):TS:=fun D σ H=>tv σ H fun v H1=>td σ H1 fun x H2=>ty σ H2 fun y H3=>∃ a H4,x=.ref a/\DPut H3 a y v H4/\D.nx σ H4
section
variable {X:Cx} {o i e value:Expr} {pos pos' tpos:Pos} {td ty tv:TE}
theorem pc_dnotin (hu:X.A.units+1<cLine) (hi:PE X i ty) (ho:PE X o td):PC X .NotIn i o (tDNotIn ty td):=by
 intro pins s σ H Q I h
 refine thn (hi pins s σ H _ I h) fun iv s1 ⟨y,H1,I1,ry,q1⟩=>thn (ho pins s1 σ H1 _ I1 q1) fun u s2 ⟨x,H2,I2,rx,a,ov,ex,g,q2⟩=>?_
 subst ex
 obtain rfl:u=Value.ref a:=rx
 exact d_notIn hu I2 g ry fun s3 I3=>⟨.bl (!ov.isSome),H2,I3,rfl,q2⟩
theorem ps_dput (hu:X.A.units+1<cLine) (ho:PE X o td) (hi:PE X i ty) (hv:PE X value tv) (hs:swapsWith value (some (.Subscript o i pos')) pos.line X.env=pure false) :
  PS X (.Assign [.Subscript o i pos'] value pos) (sDPut td ty tv):=by
 intro pins s σ H D I h
 refine wpAny_Assign_Subscript (thn (hv pins s σ H _ I h) fun r s1 ⟨v,H1,I1,rv,q1⟩=>thn (ho pins s1 σ H1 _ I1 q1) fun u s2 ⟨x,H2,I2,rx,q2⟩=>thn (hi pins s2 σ H2 _ I2 q2) fun iv s3 ⟨y,H3,I3,ry,a,H4,ex,g,q3⟩=>?_) hs
 subst ex
 obtain rfl:u=Value.ref a:=rx
 exact d_setItem hu I3 g ry rv fun s4 I4=>⟨σ,H4,I4,q3⟩
end
theorem dk_empty {P:Program} {w:World} {H:Hp} (h:Heap) (hb:sysModules<h.objs.size):ObjOk P w H (h.push { cls:=.type "dict",data:=.dict #[] }) h.objs.size (.dK []):=
 ⟨Nat.zero_le _,beq_eq_false_iff_ne.mpr (Ne.symm (Nat.ne_of_lt hb)),[],.nil,Heap.DictOf.new h⟩
theorem dt_empty {P:Program} {w:World} {H:Hp} (h:Heap) (hb:sysModules<h.objs.size):ObjOk P w H (h.push { cls:=.type "dict",data:=.dict #[] }) h.objs.size (.dT []):=
 ⟨Nat.zero_le _,beq_eq_false_iff_ne.mpr (Ne.symm (Nat.ne_of_lt hb)),[],.nil,_,#[],0,Heap.get?_push_size _ rfl,⟨rfl,rfl,rfl⟩,rfl,rfl,List.nodup_nil⟩
def tDNewK:TE:=fun _ H Q=>∀ p,H p=none->Q (.ref p) (upd H p (.dK []))
def tDNewT:TE:=fun _ H Q=>∀ p,H p=none->Q (.ref p) (upd H p (.dT []))
section
variable {X:Cx} {pos:Pos}
theorem pe_dnewK:PE X (.Dict [] [] pos) tDNewK:=fun pins s σ H Q I h=>
 wpAny_Dict_empty ⟨.ref s.heap.objs.size,_,I.laid (a:=s.heap.objs.size) (o:=.dK []) (t':=s.toks) (fun _ _ q=>Heap.get?_push_of_some _ q) (Nat.le_refl _) (dk_empty s.heap I.big),rfl,h _ (I.hok.fresh (Nat.le_refl _))⟩
theorem pe_dnewT:PE X (.Dict [] [] pos) tDNewT:=fun pins s σ H Q I h=>
 wpAny_Dict_empty ⟨.ref s.heap.objs.size,_,I.laid (a:=s.heap.objs.size) (o:=.dT []) (t':=s.toks) (fun _ _ q=>Heap.get?_push_of_some _ q) (Nat.le_refl _) (dt_empty s.heap I.big),rfl,h _ (I.hok.fresh (Nat.le_refl _))⟩
end
structure M2 (X:Cx) (o:Expr) (m:Str) (apos:Pos) (e f:Expr) (cpos:Pos):Prop where
 base:attributeBase o m X.env (eval o X.env)=eval o X.env
 few:((backTo cpos (starEach [e,f] X.env)).all (fun x=>!x.1) && (backToKw cpos (keywordEach [] X.env)).all (fun x=>x.1.isSome)
  && decide (([e,f]:List Expr).length+([]:List Keyword).length+(if ([]:List Keyword).isEmpty then 0 else 1)<30))=true
 line:(apos.endLine==cpos.line)=true
 trees:backTo cpos (starEach [e,f] X.env)=[(false,eval e X.env),(false,eval f X.env)]
def IsD (H:Hp) (a:Addr):Prop:=(∃ kvs,Rd H a (.dK kvs))\/∃ kvs,Rd H a (.dT kvs)
theorem isD_at {X:Cx} {pins:List (Addr × Obj)} {σ:St} {H:Hp} {s:Shared} {a:Addr} (I:Inv X pins σ H s) (d:IsD H a) :
  s.TypeIs (.ref a) "dict"/\(∀ b,Value.ref a=.ref b->∃ ob,s.heap.get? b=some ob/\ob.dict=none)/\(a==sysModules)=false:=by
 rcases d with ⟨kvs,e⟩ | ⟨kvs,e⟩
 ·obtain ⟨_,hd,vs,_,dd⟩:=dk_rd I.hok e
  refine ⟨dd.typeIs,fun b q=>?_,hd⟩
  cases q
  obtain ⟨ob,_,_,h1,h2,_⟩:=dd
  exact ⟨ob,h1,h2.2.1⟩
 ·obtain ⟨_,hd,xs,_,dd⟩:=dt_rd I.hok e
  refine ⟨dd.typeIs,fun b q=>?_,hd⟩
  cases q
  obtain ⟨ob,_,_,h1,h2,_⟩:=dd
  exact ⟨ob,h1,h2.2.1⟩
section
variable {X:Cx} {pins:List (Addr × Obj)} {σ:St} {H:Hp} {s:Shared} {a:Addr} {y d:V} {u r:Value} {o:Option V} {A:Around} {E:Value->Shared->Prop}
theorem d_get2 {Q:Value->Shared->Prop} (hu:A.units+1<cLine) (I:Inv X pins σ H s) (g:DGet H a y o) (ry:RelV y u) (rd:RelV d r) (h:∀ w' s',Inv X pins σ H s'->RelV (o.getD d) w'->Q w' s') :
  wpAny (model X.prog X.w) A (call (.builtin "dict.get") [.ref a,u,r]) Q E s:=by
 rcases g with ⟨kvs,k,e,ey,l⟩ | ⟨kvs,k,b,e,ey,eb,l⟩
 ·subst ey
  obtain ⟨z,hd,vs,rel,dd⟩:=dk_rd I.hok e
  refine call_meetsIn PySem.F.slot_dict_get dd.typeIs PySem.F.entry_dict_get (PySem.F.args_dict_get_3 _ _ _) (meets_dict_get_default (mixKind X.prog X.w) a (kV_is ry) hd r) ⟨_,dd.mapOf,h _ _ (I.tok _) ?_⟩
  rw [l]
  exact (rel.val k).getD rd
 ·subst ey
  cases (show u=Value.ref b from ry)
  obtain ⟨z,hd,xs,rel,dd⟩:=dt_rd I.hok e
  refine call_meetsIn PySem.F.slot_dict_get dd.typeIs PySem.F.entry_dict_get (PySem.F.args_dict_get_3 _ _ _) (meetsH_dict_get_default (tupleKind (mixKind X.prog X.w)) a b hd r) ⟨tupleKind_room_in1 hu,k,xs,key_of I.hok eb,dd,h _ _ (I.tok _) ?_⟩
  rw [l]
  exact (rel.val k).getD rd
end
def tDGet2 (td ty tx:TE):TE:=fun σ H Q=>td σ H fun x H1=>∃ a,x=.ref a/\IsD H1 a/\ty σ H1 fun y H2=>tx σ H2 fun z H3=>∃ o,DGet H3 a y o/\Q (o.getD z) H3
section
variable {X:Cx} {o e f:Expr} {apos cpos:Pos} {td ty tx:TE}
theorem pe_dget2 (hu:X.A.units+1<cLine) (ho:PE X o td) (he:PE X e ty) (hf:PE X f tx) (m:M2 X o "get" apos e f cpos):PE X (.Call (.Attribute o "get" apos) [e,f] [] cpos) (tDGet2 td ty tx):=by
 intro pins s σ H Q I h
 refine wpAny_Call_method m.base m.few m.line PySem.F.plainAttrs_dict PySem.F.slot_dict_get PySem.F.type_dict_get (thn (ho pins s σ H _ I h) fun u s1 ⟨x,H1,I1,rx,a,ex,d,q1⟩=>?_)
 subst ex
 obtain rfl:u=Value.ref a:=rx
 obtain ⟨t1,t2,_⟩:=isD_at I1 d
 refine ⟨t1,t2,?_⟩
 rw [m.trees]
 refine Calls.callWith_builtin rfl (Calls.evalArgs_plain (Calls.spliced_cons (thn (he pins s1 σ H1 _ I1 q1) fun iv s2 ⟨y,H2,I2,ry,q2⟩=>
  Calls.spliced_cons (thn (hf pins s2 σ H2 _ I2 q2) fun fv s3 ⟨z,H3,I3,rz,ov,g,q3⟩=>Calls.spliced_nil ?_))))
 exact d_get2 hu I3 g ry rz fun w' s4 I4 rw'=>⟨_,H3,I4,rw',q3⟩
end
end L2
namespace L2
open PySem PySem.Spec PyProof.Rows
section
variable {X:Cx} {pins:List (Addr × Obj)} {σ:St} {H:Hp} {s:Shared} {h':Heap}
theorem Inv.turnedL {t':Nat} {ch:List Addr} (I:Inv X pins σ H s) (k:∀ b o,b ∉ ch->s.heap.get? b=some o->h'.get? b=some o) (hf:∀ b ∈ ch,FpOk X pins H b):Inv X pins σ H { s with heap:=h',toks:=t' }:=by
 have nit:∀ b u,H b=some u->b ∉ ch:=fun b u e z=>by
  have q:=(hf b z).1
  rw [q] at e;cases e
 refine I.step (g':=s.gens) (d':=s.drawn) (ch:=ch) (fun b hb=>⟨(hf b hb).2.2.2.1,(hf b hb).2.1,(hf b hb).2.2.2.2.1,(hf b hb).2.2.2.2.2⟩) (fun b o _ _ hc e _=>k b o hc e) (fun b o _ _ hc e _=>⟨o.slots,k b o hc e⟩)
  (fun _ _ _ _ n=>n) (fun b o hc e=>⟨o,k b o hc e⟩) (fun _ _ e=>e) (fun _ _ _ e=>e) (fun b ps e=>⟨#[],by rw [e];simp⟩) (fun m hm=>?_) (fun b u e=>?_) I.bare
 ·obtain ⟨o,es,ep,ho,r⟩:=hm
  exact ⟨o,es,ep,k _ o (fun z=>(hf _ z).2.1 rfl) ho,r⟩
 ·refine (I.hok b u e).stay (fun c v hc q=>k c v ?_ q) (fun _ q=>q) fun _ _ q=>q
  rcases hc with z | z
  ·rw [z];exact nit b u e
  ·exact nit c _ z
theorem Inv.turnedNew {t':Nat} {ch:List Addr} {T:Addr} {ob:HO} (I:Inv X pins σ H s) (k:∀ b o,b ∉ ch->s.heap.get? b=some o->h'.get? b=some o) (hf:∀ b ∈ ch,FpOk X pins H b) (hT:s.heap.objs.size<=T)
  (new:ObjOk X.prog X.w (upd H T ob) h' T ob):Inv X pins σ (upd H T ob) { s with heap:=h',toks:=t' }:=by
 have hn:H T=none:=I.hok.fresh hT
 have nit:∀ b u,H b=some u->b ∉ ch:=fun b u e z=>by
  have q:=(hf b z).1
  rw [q] at e;cases e
 refine I.step (g':=s.gens) (d':=s.drawn) (ch:=ch) (fun b hb=>⟨(hf b hb).2.2.2.1,(hf b hb).2.1,(hf b hb).2.2.2.2.1,(hf b hb).2.2.2.2.2⟩) (fun b o _ _ hc e _=>k b o hc e) (fun b o _ _ hc e _=>⟨o.slots,k b o hc e⟩)
  (fun b o _ e n=>?_) (fun b o hc e=>⟨o,k b o hc e⟩) (fun b xs e=>?_) (fun b o u e=>?_) (fun b ps e=>⟨#[],?_⟩) (fun m hm=>?_) (fun b u e=>?_) I.bare
 ·rw [upd_ne (Nat.ne_of_lt (Nat.lt_of_lt_of_le (Heap.lt_size e) hT))];exact n
 ·rw [upd_ne (ne_of_none e hn)];exact e
 ·rw [upd_ne (ne_of_none e hn)];exact e
 ·rw [upd_ne (ne_of_none e hn),e];simp
 ·obtain ⟨o,es,ep,ho,r⟩:=hm
  exact ⟨o,es,ep,k _ o (fun z=>(hf _ z).2.1 rfl) ho,r⟩
 ·by_cases hb:b=T
  ·subst hb
   rw [upd_same] at e
   cases e
   exact new
  ·rw [upd_ne hb] at e
   refine (I.hok b u e).stay (fun c v hc q=>k c v ?_ q) (fun c q=>by rw [upd_ne (ne_of_none q hn)];exact q) fun c xs q=>by rw [upd_ne (ne_of_none q hn)];exact q
   rcases hc with z | z
   ·rw [z];exact nit b u e
   ·exact nit c _ z
theorem Inv.lock {d:Addr} {u:HO} (I:Inv X pins σ H s) (h:H d=some u) (mu:Mut (some u)):∃ od,Inv X pins σ (upd H d (.frz od u)) s:=by
 have x:=I.hok d u h
 have ex:∃ od,s.heap.get? d=some od:=by
  cases u with
  | lst xs=>obtain ⟨_,_,_,_,e⟩:=x;exact ⟨_,e⟩
  | dK kvs=>obtain ⟨_,_,_,_,o,_,_,e,_⟩:=x;exact ⟨o,e⟩
  | dT kvs=>obtain ⟨_,_,_,_,o,_,_,e,_⟩:=x;exact ⟨o,e⟩
  | set S n=>obtain ⟨o,_,_,_,e,_⟩:=x;exact ⟨o,e⟩
  | ins C dx fs=>obtain ⟨_,_,_,e,_⟩:=x;exact ⟨_,e⟩
  | ext φ=>obtain ⟨_,⟨_,e⟩,_⟩:=x;exact ⟨_,e⟩
  | _=>exact False.elim mu
 obtain ⟨od,e⟩:=ex
 have new:ObjOk X.prog X.w (upd H d (.frz od u)) s.heap d (.frz od u):=by
  refine ⟨e,x.stay (fun b v _ q=>q) (fun b q=>?_) fun b xs q=>?_⟩
  ·rw [upd_ne (fun z=>by rw [z,h] at q;cases q;exact mu)];exact q
  ·rw [upd_ne (fun z=>by rw [z,h] at q;cases q;exact mu)];exact q
 exact ⟨od,I.write (x:=d) (e:=d) (t':=s.toks) (h':=s.heap) (by rw [h];exact mu) (.inl rfl) (fun b v _ q=>q) ⟨od,e⟩ new⟩
theorem Inv.nofrz {d:Addr} {u:HO} (I:Inv X pins σ H s) (h:H d=some u) (mu:Mut (some u)):∀ o' u',X.H_0 d ≠ some (.frz o' u'):=fun o' u' e=>by
 have q:=I.base.frzs d o' u' e
 rw [h] at q
 cases q
 exact mu
theorem Inv.unlock {d:Addr} {od:Obj} {u:HO} (I:Inv X pins σ H s) (h:H d=some (.frz od u)) (hn:∀ o' u',X.H_0 d ≠ some (.frz o' u')):Inv X pins σ (upd H d u) s:=by
 have neH:∀ b o,H b=some o->(∀ o' u',o ≠ .frz o' u')->b ≠ d:=fun b o e hne z=>by
  rw [z,h] at e
  cases e
  exact hne _ _ rfl
 have neN:∀ b,H b=none->b ≠ d:=fun b e z=>by rw [z,h] at e;cases e
 refine ⟨I.ok,I.os,I.bare,⟨I.base.keep,I.base.slot,fun b o e n hx=>?_,I.base.there,fun b xs e=>?_,fun b o x e=>?_,fun b ps e=>?_⟩,I.loc,I.cell,?_,fun x c e=>?_,fun p hp=>?_,fun b o e=>?_,I.len⟩
 ·rw [upd_ne (neN b (I.base.free b o e n hx))];exact I.base.free b o e n hx
 ·have q:=I.base.tups b xs e
  rw [upd_ne (neH b _ q (fun _ _ z=>nomatch z))];exact q
 ·have q:=I.base.frzs b o x e
  rw [upd_ne (fun z=>by rw [z] at e;exact hn _ _ e)];exact q
 ·obtain ⟨m,q⟩:=I.base.tbls b ps e
  exact ⟨m,by rw [upd_ne (neH b _ q (fun _ _ z=>nomatch z))];exact q⟩
 ·rw [upd_ne (neN _ I.free)];exact I.free
 ·rw [upd_ne (neN c (I.freeC x c e))];exact I.freeC x c e
 ·obtain ⟨e,n,r⟩:=I.pin p hp
  exact ⟨e,by rw [upd_ne (neN _ n)];exact n,r⟩
 ·by_cases hb:b=d
  ·rw [hb,upd_same] at e
   cases e
   rw [hb]
   obtain ⟨_,x⟩:=I.hok d _ h
   exact x.stay (fun c v _ q=>q) (fun c q=>by rw [upd_ne (neH c _ q (fun _ _ z=>nomatch z))];exact q) fun c xs q=>by rw [upd_ne (neH c _ q (fun _ _ z=>nomatch z))];exact q
  ·rw [upd_ne hb] at e
   exact (I.hok b o e).stay (fun c v _ q=>q) (fun c q=>by rw [upd_ne (neH c _ q (fun _ _ z=>nomatch z))];exact q) fun c xs q=>by rw [upd_ne (neH c _ q (fun _ _ z=>nomatch z))];exact q
end
def tLock (t:TS):TS:=fun D σ H=>∃ d u,H d=some u/\Mut (some u)/\∀ od,t ⟨fun σ' H'=>H' d=some (.frz od u)/\D.nx σ' (upd H' d u),fun v H'=>H' d=some (.frz od u)/\D.rt v (upd H' d u),fun σ' H'=>H' d=some (.frz od u)/\D.bk σ' (upd H' d u),fun σ' H'=>H' d=some (.frz od u)/\D.ct σ' (upd H' d u)⟩ σ (upd H d (.frz od u))
section
variable {X:Cx}
theorem ps_lock {st:Stmt} {t:TS} (h:PS X st t):PS X st (tLock t):=by
 intro pins s σ H D I hw
 obtain ⟨d,u,hd,mu,hw⟩:=hw
 obtain ⟨od,I1⟩:=I.lock hd mu
 refine thn (h pins s σ _ _ I1 (hw od)) fun f s1 q=>?_
 cases f with
 | next=>obtain ⟨σ',H',I2,e,q⟩:=q;exact ⟨σ',_,I2.unlock e (I.nofrz hd mu),q⟩
 | brk=>obtain ⟨σ',H',I2,e,q⟩:=q;exact ⟨σ',_,I2.unlock e (I.nofrz hd mu),q⟩
 | cont=>obtain ⟨σ',H',I2,e,q⟩:=q;exact ⟨σ',_,I2.unlock e (I.nofrz hd mu),q⟩
 | ret v=>obtain ⟨x,σ',H',I2,r,e,q⟩:=q;exact ⟨x,σ',_,I2.unlock e (I.nofrz hd mu),r,q⟩
theorem pi_one {tg:Expr} {pins:List (Addr × Obj)} {σ:St} {H:Hp} {s:Shared} {R:It->Hp->Prop} {J:It} {tn:Nat->Heap->Prop} {tk:Nat} (I:Inv X pins σ H s) (o:Obj)
  (T:Turn X.prog X.w X.K tg J [s.heap.objs.size] s.heap.objs.size tn) (st:tn 0 (s.heap.push o)) (q:R J H):PIE X pins σ tg R (.ref s.heap.objs.size) { s with heap:=s.heap.push o,toks:=tk }:=by
 refine ⟨s.heap.objs.size,[s.heap.objs.size],tn,J,H,rfl,I.kept fun b ob e=>Heap.get?_push_of_some _ e,T,st,fun b hb=>?_,q⟩
 have e:b=s.heap.objs.size:=by simpa using hb
 subst e
 exact I.fpOk (Nat.le_refl _) (I.hok.fresh (Nat.le_refl _))
end
section
variable {prog:Program} {w:World} {A:Around} {E:Value->Shared->Prop} {s:Shared}
theorem iter_keys {d:Addr} {o:Obj} {es:Array DictEntry} {ep:Nat} {Q:Value->Shared->Prop} (hd:(d==sysModules)=false) (ho:s.heap.get? d=some o) (hc:o.ExactDict) (hdat:o.data=.dict es ep)
  (hQ:Q (.ref s.heap.objs.size) { s with heap:=s.heap.push { cls:=.type "dict_keyiterator",data:=.fields #[.ref d,.int 0 0,.int es.size 0,.int ep 0] } }) :
  wpAny (model prog w) A (pyIter (.ref d)) Q E s:=by
 have hT:s.TypeIs (.ref d) "dict":=⟨o,ho,hc.1⟩
 refine wpAny_pyIter_slot hT F.slot_dict_iter (wpAny_call_entry F.slot_dict_iter hT F.entry_dict_iter ?_ (F.args_dict_iter_1 _))
 unfold Builtin.«dict.__iter__»
 refine wpAny_bind ?_
 unfold Builtin.Dict.dictSlotNone
 refine wpAny_bind (wpAny_notOrdered_dict hT ?_)
 show wpAny _ _ (pure (Value.ref d)) _ _ s
 refine wpAny_pure ?_
 show wpAny _ _ (Builtin.Dict.showsAll d >>= _) _ _ s
 unfold Builtin.Dict.showsAll
 rw [if_neg (by rw [hd];exact Bool.false_ne_true)]
 refine wpAny_bind (wpAny_pure ?_)
 refine wpAny_bind (wpAny_dictEntries ho hdat ?_)
 refine wpAny_bind (wpAny_dictEpoch ho hdat ?_)
 refine wpAny_bind (wpAny_newObj_type (wpAny_pure ⟨_,rfl,"dict_keyiterator",_,⟨_,Heap.get?_push_size _ rfl,rfl⟩,F.slot_dict_keyiterator_next.lookup,?_⟩))
 simpa [rawInt] using hQ
theorem next_key_item {it d:Addr} {i n ep:Nat} {od:Obj} {es:Array DictEntry} {en:DictEntry} {Q:Option Value->Shared->Prop} (hit:s.heap.IsKeyIter it d i n ep) (hod:s.heap.get? d=some od) (hdd:od.data=.dict es ep)
  (hsz:es.size=n) (hx:es[i]?=some en) (hQ:∀ h',h'.IsKeyIter it d (i+1) n ep->Heap.SameBut it s.heap h'->Q (some en.key) { s with heap:=h' }):wpAny (model prog w) A (pyNext (.ref it)) Q E s:=by
 obtain ⟨o,ho,hc,hd⟩:=id hit
 unfold pyNext
 refine wpAny_bind (wpAny_attempt (wpAny_callSpecial?_slot (name:=Str.ofString "__next__") hit.typeIs F.slot_dict_keyiterator_next
  (wpAny_call_entry F.slot_dict_keyiterator_next hit.typeIs F.entry_dict_keyiterator_next ?_ (F.args_dict_keyiterator_next_1 _))))
 refine wpAny_bind (wpAny_pure ?_)
 refine wpAny_bind ?_
 refine wpAny_bind ?_
 first | refine wpAny_bind (wpAny_typeNameOfWhole_keyiter hit.typeIs (wpAny_pure ?_)) | refine wpAny_bind (wpAny_typeNameOf_keyiter hit.typeIs (wpAny_pure ?_))
 refine wpAny_bind (wpAny_fieldsOf ho hd ?_)
 have hown:Builtin.Dict_items.ownsTuple "dict_keyiterator"=false:=by decide
 simp only [hown,Bool.false_eq_true,if_false]
 show wpAny _ _ (if (Value.ref d==Value.none)=true then _ else _) _ _ s
 rw [if_neg (show ¬ ((Value.ref d==Value.none)=true) from Bool.false_ne_true)]
 refine wpAny_bind (wpAny_pure ?_)
 refine wpAny_bind (wpAny_dictEntries hod hdd ?_)
 rw [if_neg (by rw [hsz];simp)]
 refine wpAny_bind (wpAny_pure ?_)
 refine wpAny_bind (wpAny_dictEpoch hod hdd ?_)
 rw [if_neg (by simp)]
 refine wpAny_pure ?_
 obtain ⟨hlt',hen⟩:=Array.getElem?_eq_some_iff.mp hx
 simp only [show ¬ ((i:Int)<0) from by omega,if_false,Int.toNat_natCast,Array.getElem?_eq_getElem hlt']
 refine wpAny_bind ?_
 first | refine wpAny_bind (wpAny_typeNameOfWhole_keyiter hit.typeIs (wpAny_pure ?_)) | refine wpAny_bind (wpAny_typeNameOf_keyiter hit.typeIs (wpAny_pure ?_))
 refine wpAny_bind (wpAny_isOneOf_keyiter hit.typeIs ?_)
 show wpAny _ _ (setField (.ref it) 1 (rawInt ((i:Int)+1)) >>= _) _ _ s
 refine wpAny_bind (wpAny_setField ho hd (by simp) ?_)
 have hit':(s.heap.update it (Obj.mapFields (·.setIfInBounds 1 (rawInt ((i:Int)+1))))).IsKeyIter it d (i+1) n ep:=
  ⟨_,Heap.get?_update_self _ ho (Obj.isFreed_of_fields (Obj.data_mapFields hd _)),(Obj.cls_mapFields ..).trans hc,by rw [Obj.data_mapFields hd];simp [rawInt]⟩
 refine wpAny_bind (wpAny_holding ?_)
 refine wpAny_bind (wpAny_isOneOf_keyiter (s:={ s with heap:=s.heap.update it (Obj.mapFields (·.setIfInBounds 1 (rawInt ((i:Int)+1)))) }) hit'.typeIs ?_)
 show wpAny _ _ (pure es[i].key) _ _ _
 rw [hen]
 exact wpAny_pure (wpAny_pure ⟨_,rfl,wpAny_pure (hQ _ hit' (Heap.SameBut.update ..))⟩)
theorem next_key_end {it d:Addr} {i n ep:Nat} {od:Obj} {es:Array DictEntry} {Q:Option Value->Shared->Prop} (hh:A.handled=none) (hit:s.heap.IsKeyIter it d i n ep) (hod:s.heap.get? d=some od) (hdd:od.data=.dict es ep)
  (hsz:es.size=n) (hge:n<=i) (hQ:∀ h',Heap.ExtBut it s.heap h'->Q none { s with heap:=h' }):wpAny (model prog w) A (pyNext (.ref it)) Q E s:=by
 obtain ⟨o,ho,hc,hd⟩:=id hit
 unfold pyNext
 refine wpAny_bind (wpAny_attempt (wpAny_callSpecial?_slot (name:=Str.ofString "__next__") hit.typeIs F.slot_dict_keyiterator_next
  (wpAny_call_entry F.slot_dict_keyiterator_next hit.typeIs F.entry_dict_keyiterator_next ?_ (F.args_dict_keyiterator_next_1 _))))
 refine wpAny_bind (wpAny_pure ?_)
 refine wpAny_bind ?_
 refine wpAny_bind ?_
 first | refine wpAny_bind (wpAny_typeNameOfWhole_keyiter hit.typeIs (wpAny_pure ?_)) | refine wpAny_bind (wpAny_typeNameOf_keyiter hit.typeIs (wpAny_pure ?_))
 refine wpAny_bind (wpAny_fieldsOf ho hd ?_)
 have hown:Builtin.Dict_items.ownsTuple "dict_keyiterator"=false:=by decide
 simp only [hown,Bool.false_eq_true,if_false]
 show wpAny _ _ (if (Value.ref d==Value.none)=true then _ else _) _ _ s
 rw [if_neg (show ¬ ((Value.ref d==Value.none)=true) from Bool.false_ne_true)]
 refine wpAny_bind (wpAny_pure ?_)
 refine wpAny_bind (wpAny_dictEntries hod hdd ?_)
 rw [if_neg (by rw [hsz];simp)]
 refine wpAny_bind (wpAny_pure ?_)
 refine wpAny_bind (wpAny_dictEpoch hod hdd ?_)
 rw [if_neg (by simp)]
 refine wpAny_pure ?_
 have hge':es.size<=i:=by rw [hsz];exact hge
 simp only [show ¬ ((i:Int)<0) from by omega,if_false,Int.toNat_natCast,Array.getElem?_eq_none hge']
 refine wpAny_bind ?_
 first | refine wpAny_bind (wpAny_typeNameOfWhole_keyiter hit.typeIs (wpAny_pure ?_)) | refine wpAny_bind (wpAny_typeNameOf_keyiter hit.typeIs (wpAny_pure ?_))
 show wpAny _ _ (setField (.ref it) 0 .none >>= _) _ _ s
 refine wpAny_bind (wpAny_setField ho hd (by simp) ?_)
 show wpAny _ _ (newExc (.type "StopIteration") [] >>= _) _ _ _
 refine wpAny_bind ?_
 simp only [newExc,newTuple]
 refine wpAny_bind (wpAny_newObj_type ?_ (by size_fits))
 refine wpAny_bind (m:=firstArgMember _ _) (wpAny_of_eq (a:=Value.none) (by first | rfl | (simp only [firstArgMember];rfl)) ?_)
 refine wpAny_newObj_type ?_ (by size_fits)
 simp only [raiseNew]
 refine wpAny_bind (wpAny_handled ?_)
 rw [show A.in1.handled=none from hh]
 refine wpAny_bind (wpAny_pure (wpAny_throw ?_))
 refine wpAny_bind (wpAny_isInstance (T:="StopIteration") (b:=true) ⟨_,Heap.get?_push_size _ rfl,rfl⟩ isSubtype_stop ?_)
 exact wpAny_pure (hQ _ (((Heap.SameBut.update ..).extBut.push _).push _))
end
theorem kv_get {κ:Type} {kvs:List (κ × V)} {vs:List (κ × Value)} (h:KV kvs vs):∀ {i:Nat} {k:κ} {v:V},kvs[i]?=some (k,v)->∃ u,vs[i]?=some (k,u)/\RelV v u:=by
 unfold KV at h
 induction h with
 | nil=>intro i k v e;simp at e
 | @cons a b l₁ l₂ r t ih=>
  intro i k v e
  cases i with
  | zero=>
   simp only [List.getElem?_cons_zero,Option.some.injEq] at e
   subst e
   refine ⟨b.2,?_,r.2⟩
   simp only [List.getElem?_cons_zero]
   exact congrArg some (Prod.ext r.1.symm rfl)
  | succ j=>
   simp only [List.getElem?_cons_succ] at e ⊢
   exact ih e
theorem paired_get {α β:Type} {G:α->β->Prop} {l₁:List α} {l₂:List β} (h:Paired G l₁ l₂):∀ {i:Nat} {a:α},l₁[i]?=some a->∃ b,l₂[i]?=some b/\G a b:=by
 induction h with
 | nil=>intro i a e;simp at e
 | @cons a b l₁ l₂ r t ih=>
  intro i a' e
  cases i with
  | zero=>
   simp only [List.getElem?_cons_zero,Option.some.injEq] at e
   subst e
   exact ⟨b,rfl,r⟩
  | succ j=>
   simp only [List.getElem?_cons_succ] at e ⊢
   exact ih e
theorem relV_key {k:Key} {u:Value} (h:keyIs k u=true):RelV (kV k) u:=by
 rcases keyIs_shape h with ⟨i,t,rfl,rfl⟩ | ⟨x,t,rfl,rfl⟩
 ·exact ⟨t,rfl⟩
 ·exact ⟨t,rfl⟩
section
variable {X:Cx} {pins:List (Addr × Obj)} {σ:St} {H:Hp} {s:Shared} {d:Addr} {o:Obj}
theorem Inv.frzK {kvs:List (Key × V)} (I:Inv X pins σ H s) (h:H d=some (.frz o (.dK kvs))) :
  (d==sysModules)=false/\s.heap.get? d=some o/\o.ExactDict/\∃ (es:Array DictEntry) (ep:Nat) (vs:List (Key × Value)),o.data=.dict es ep/\es.size=kvs.length/\KV kvs vs/\s.heap.DictAt (mixKind X.prog X.w) d vs ep:=by
 obtain ⟨hd,z,hs,vs,kv,o',es,ep,ho,hx,hdt,r⟩:=I.hok d _ h
 rw [hd] at ho
 cases ho
 refine ⟨hs,hd,hx,es,ep,vs,hdt,?_,kv,o,es,hd,hx,hdt,r⟩
 have l1:=r.2.1.length
 have l2:kvs.length=vs.length:=Paired.length kv
 rw [Array.length_toList] at l1
 omega
theorem Inv.frzT {kvs:List (List Key × V)} (I:Inv X pins σ H s) (h:H d=some (.frz o (.dT kvs))) :
  (d==sysModules)=false/\s.heap.get? d=some o/\o.ExactDict/\∃ (es:Array DictEntry) (ep:Nat),o.data=.dict es ep/\es.size=kvs.length/\
   ∀ (i:Nat) (k:List Key) (v:V),kvs[i]?=some (k,v)->∃ (en:DictEntry) (q:Addr),es[i]?=some en/\en.key=.ref q/\H q=some (.tup (k.map kV)):=by
 obtain ⟨hd,z,hs,xs,pr,o',es,ep,ho,hx,hdt,he,_⟩:=I.hok d _ h
 rw [hd] at ho
 cases ho
 refine ⟨hs,hd,hx,es,ep,hdt,?_,fun i k v e=>?_⟩
 ·have l1:es.size=xs.length:=size_of_entries he
  have l2:kvs.length=xs.length:=Paired.length pr
  omega
 ·obtain ⟨b,hb,e1,e2,_⟩:=paired_get pr e
  have q:=entry_at he i
  rw [hb] at q
  exact ⟨_,b.2.1,q,rfl,e2⟩
end
def Itk (d:Addr) (o:Obj) (kvs:List (Key × V)):It:=
 ⟨fun i H=>H d=some (.frz o (.dK kvs))/\i<kvs.length,fun i H x H'=>H'=H/\∃ k v,kvs[i]?=some (k,v)/\x=kV k,fun i H=>H d=some (.frz o (.dK kvs))/\kvs.length<=i⟩
def Itkt (d:Addr) (o:Obj) (kvs:List (List Key × V)):It:=
 ⟨fun i H=>H d=some (.frz o (.dT kvs))/\i<kvs.length,fun i H x H'=>H'=H/\∃ (k:List Key) (v:V) (q:Addr),kvs[i]?=some (k,v)/\x=.ref q/\H q=some (.tup (k.map kV)),fun i H=>H d=some (.frz o (.dT kvs))/\kvs.length<=i⟩
theorem dict_ep {o:Obj} {es es':Array DictEntry} {ep ep':Nat} (h:o.data=.dict es ep) (h':o.data=.dict es' ep'):es'=es/\ep'=ep:=by
 rw [h] at h'
 cases h'
 exact ⟨rfl,rfl⟩
section
variable {P:Program} {w:World} {K:PySem.W.Frag} {tg:Expr} {d:Addr} {o:Obj} {es:Array DictEntry} {ep:Nat}
theorem turn_keys {kvs:List (Key × V)} (it:Addr) (hod:o.data=.dict es ep):Turn P w K tg (Itk d o kvs) [it] it (fun i h=>h.IsKeyIter it d i kvs.length ep) where
 mem:=by simp
 obj:=fun i h st b hb=>by
  have e:b=it:=by simpa using hb
  subst e
  obtain ⟨oi,e,c,dd⟩:=st
  exact ⟨oi,e,fun v z=>by rw [dd] at z;cases z⟩
 keep:=fun i h h' st k=>st.at fun oi e=>k it (by simp) oi e
 item:=by
  intro X hP hw hK hc i pins s σ H E I hf st hg
  subst hP hw hK
  obtain ⟨hd,hi⟩:=hg
  obtain ⟨f0,f1,f2,f3,f4,f5⟩:=hf it (by simp)
  obtain ⟨hs,hgd,hx,es',ep',vs,hdt,hsz,kv,hm⟩:=I.frzK hd
  obtain ⟨rfl,rfl⟩:=dict_ep hod hdt
  obtain ⟨⟨k,v⟩,hkv⟩:∃ p,kvs[i]?=some p:=⟨kvs[i],List.getElem?_eq_getElem hi⟩
  obtain ⟨u,hu,ru⟩:=kv_get kv hkv
  have hl:kvs.length=vs.length:=Paired.length kv
  rw [hl] at st
  refine wpAny_pyNext_dict_item st hm hu fun key h' hkey st' sb=>?_
  have I1:Inv X pins σ H { s with heap:=h' }:=I.turned (t':=s.toks) (fun b ob hb e=>(sb.2 b hb).trans e) f0 f1 f3 f4 f5
  obtain ⟨oi,e,c,dd⟩:=id st'
  refine ⟨key,rfl,go_of (s:={ s with heap:=h' }) e c dd (by decide) ⟨kV k,H,I1,relV_key (show keyIs k key=true from hkey),⟨rfl,k,v,hkv,rfl⟩,?_,fun b hb=>(hf b hb).1⟩⟩
  show h'.IsKeyIter it d (i+1) kvs.length _
  rw [hl]
  exact st'
 done:=by
  intro X hP hw hK hc i pins s σ H E I hf st hg
  subst hP hw hK
  obtain ⟨hd,hi⟩:=hg
  obtain ⟨f0,f1,f2,f3,f4,f5⟩:=hf it (by simp)
  obtain ⟨hs,hgd,hx,es',ep',vs,hdt,hsz,kv,hm⟩:=I.frzK hd
  obtain ⟨rfl,rfl⟩:=dict_ep hod hdt
  exact next_key_end (I.ok.hd hc) st hgd hdt hsz hi fun h' eb=>⟨rfl,I.turned (t':=s.toks) (fun b ob hb e=>eb b ob hb e) f0 f1 f3 f4 f5⟩
 self:=fun A i s Q E st h=>wpAny_pyIter_keyiter st h
theorem turn_keysT {kvs:List (List Key × V)} (it:Addr) (hod:o.data=.dict es ep):Turn P w K tg (Itkt d o kvs) [it] it (fun i h=>h.IsKeyIter it d i kvs.length ep) where
 mem:=by simp
 obj:=fun i h st b hb=>by
  have e:b=it:=by simpa using hb
  subst e
  obtain ⟨oi,e,c,dd⟩:=st
  exact ⟨oi,e,fun v z=>by rw [dd] at z;cases z⟩
 keep:=fun i h h' st k=>st.at fun oi e=>k it (by simp) oi e
 item:=by
  intro X hP hw hK hc i pins s σ H E I hf st hg
  subst hP hw hK
  obtain ⟨hd,hi⟩:=hg
  obtain ⟨f0,f1,f2,f3,f4,f5⟩:=hf it (by simp)
  obtain ⟨hs,hgd,hx,es',ep',hdt,hsz,ent⟩:=I.frzT hd
  obtain ⟨rfl,rfl⟩:=dict_ep hod hdt
  obtain ⟨⟨k,v⟩,hkv⟩:∃ p,kvs[i]?=some p:=⟨kvs[i],List.getElem?_eq_getElem hi⟩
  obtain ⟨en,q,hen,hkey,hq⟩:=ent i k v hkv
  refine next_key_item st hgd hdt hsz hen fun h' st' sb=>?_
  have I1:Inv X pins σ H { s with heap:=h' }:=I.turned (t':=s.toks) (fun b ob hb e=>(sb.2 b hb).trans e) f0 f1 f3 f4 f5
  obtain ⟨oi,e,c,dd⟩:=id st'
  exact ⟨en.key,rfl,go_of (s:={ s with heap:=h' }) e c dd (by decide) ⟨.ref q,H,I1,hkey,⟨rfl,k,v,q,hkv,rfl,hq⟩,st',fun b hb=>(hf b hb).1⟩⟩
 done:=by
  intro X hP hw hK hc i pins s σ H E I hf st hg
  subst hP hw hK
  obtain ⟨hd,hi⟩:=hg
  obtain ⟨f0,f1,f2,f3,f4,f5⟩:=hf it (by simp)
  obtain ⟨hs,hgd,hx,es',ep',hdt,hsz,ent⟩:=I.frzT hd
  obtain ⟨rfl,rfl⟩:=dict_ep hod hdt
  exact next_key_end (I.ok.hd hc) st hgd hdt hsz hi fun h' eb=>⟨rfl,I.turned (t':=s.toks) (fun b ob hb e=>eb b ob hb e) f0 f1 f3 f4 f5⟩
 self:=fun A i s Q E st h=>by
  refine wpAny_pyIter_slot st.typeIs F.slot_dict_keyiterator_iter (wpAny_call_entry F.slot_dict_keyiterator_iter st.typeIs F.entry_dict_keyiterator_iter ?_ (F.args_dict_keyiterator_iter_1 _))
  show wpAny _ _ (ret (.ref it)) _ _ s
  exact wpAny_pure ⟨_,rfl,"dict_keyiterator",_,st.typeIs,F.slot_dict_keyiterator_next.lookup,h⟩
end
def iKeys (td:TE):TI:=fun σ H R=>td σ H fun x H1=>∃ d o,x=.ref d/\((∃ kvs,H1 d=some (.frz o (.dK kvs))/\R (Itk d o kvs) H1)\/∃ kvs,H1 d=some (.frz o (.dT kvs))/\R (Itkt d o kvs) H1)
section
variable {X:Cx} {tg e:Expr} {td:TE} {apos cpos:Pos}
theorem pi_keys (he:PE X e td):PI X tg e (iKeys td):=by
 intro pins s σ H R I h
 refine thn (he pins s σ H _ I h) fun u s1 ⟨x,H1,I1,rx,d,o,ex,q⟩=>?_
 subst ex
 obtain rfl:u=Value.ref d:=rx
 rcases q with ⟨kvs,hd,q⟩ | ⟨kvs,hd,q⟩
 ·obtain ⟨hs,hgd,hx,es,ep,vs,hdt,hsz,kv,hm⟩:=I1.frzK hd
  refine iter_keys hs hgd hx hdt (pi_one (tk:=s1.toks) I1 _ (turn_keys _ hdt) ⟨_,Heap.get?_push_size _ rfl,rfl,?_⟩ q)
  rw [hsz] <;> rfl
 ·obtain ⟨hs,hgd,hx,es,ep,hdt,hsz,ent⟩:=I1.frzT hd
  refine iter_keys hs hgd hx hdt (pi_one (tk:=s1.toks) I1 _ (turn_keysT _ hdt) ⟨_,Heap.get?_push_size _ rfl,rfl,?_⟩ q)
  rw [hsz] <;> rfl
end
def Ite (K:PySem.W.Frag) (a:Addr):It:=
 ⟨fun i H=>∃ (xs:List V) (x:V),SqL K H a xs/\xs[i]?=some x,fun i H v H'=>∃ T x,v=.ref T/\H T=none/\H'=upd H T (.tup [.int (i:Nat),x])/\∀ xs,SqL K H a xs->xs[i]?=some x,fun i H=>∃ xs:List V,SqL K H a xs/\xs.length<=i⟩
theorem turn_enum {P:Program} {w:World} {K:PySem.W.Frag} {elts:List Expr} {kk:Nat} {tpos:Pos} (a e it:Addr) :
  Turn P w K (.Tuple elts kk tpos) (Ite K a) [e,it] e (fun i h=>(∃ old,IsEnum h e it ((i:Nat):Int) old)/\h.IsListIter it a i/\e ≠ it) where
 mem:=by simp
 obj:=fun i h st b hb=>by
  obtain ⟨⟨old,he⟩,⟨o,ho,hc,hd⟩,_⟩:=st
  have e':b=e\/b=it:=by simpa using hb
  rcases e' with z | z
  ·rw [z];exact ⟨_,he,fun v q=>nomatch q⟩
  ·rw [z];exact ⟨o,ho,fun v q=>by rw [hd] at q;cases q⟩
 keep:=fun i h h' st k=>let ⟨⟨old,he⟩,hi,hne⟩:=st;⟨⟨old,k e (by simp) _ he⟩,hi.at fun o q=>k it (by simp) o q,hne⟩
 item:=by
  intro X hP hw hK hc i pins s σ H E I hf st hg
  subst hP hw hK
  obtain ⟨⟨old,he⟩,hit,hne⟩:=st
  obtain ⟨xs,x,hq,hx⟩:=hg
  obtain ⟨its,rv,p,hz⟩:=I.list hq
  obtain ⟨u,hu,ru⟩:=rv.get hx
  have hel:e<s.heap.objs.size:=Heap.lt_size he
  have hil:it<s.heap.objs.size:=by obtain ⟨_,q,_⟩:=hit;exact Heap.lt_size q
  refine wpAny_pyNext_enum_item he hit p.isList (x:=u) (by simpa using hu) hne fun h' ho hit' hT hsz hk=>?_
  refine ⟨_,rfl,wpAny_letOwnedTupleGo_enum (s:={ s with heap:=h',toks:=s.toks+1 }) ho fun h'' he' sb=>?_⟩
  have hT2:h''.get? s.heap.objs.size=some { cls:=.type "tuple",data:=.seq #[.int i s.toks,u] }:=(sb.2 _ (Nat.ne_of_gt hel)).trans hT
  have new:ObjOk X.prog X.w (upd H s.heap.objs.size (.tup [.int (i:Nat),x])) h'' s.heap.objs.size (.tup [.int (i:Nat),x]):=
   ⟨by show 2<=sizeLine;decide,[.int i s.toks,u],.cons ⟨_,rfl⟩ (.cons ru .nil),⟨_,hT2,rfl,_,rfl⟩⟩
  have I1:Inv X pins σ (upd H s.heap.objs.size (.tup [.int (i:Nat),x])) { s with heap:=h'',toks:=s.toks+1 }:=
   I.turnedNew (ch:=[e,it]) (fun b ob hb q=>(sb.2 b (fun z=>hb (by simp [z]))).trans (hk b ob (fun z=>hb (by simp [z])) (fun z=>hb (by simp [z])) q)) hf (Nat.le_refl _) new
  refine ⟨.ref s.heap.objs.size,_,I1,rfl,⟨_,x,rfl,I.hok.fresh (Nat.le_refl _),rfl,fun ys hy=>by rw [I.list_inj hy hq];exact hx⟩,⟨⟨u,?_⟩,hit'.at fun o q=>(sb.2 it (Ne.symm hne)).trans q,hne⟩,fun b hb=>?_⟩
  ·have e1:((i+1:Nat):Int)=(i:Int)+1:=by omega
   rw [e1];exact he'
  ·have hb':b<s.heap.objs.size:=by
    have e':b=e\/b=it:=by simpa using hb
    rcases e' with z | z
    ·rw [z];exact hel
    ·rw [z];exact hil
   rw [upd_ne (Nat.ne_of_lt hb')]
   exact (hf b hb).1
 done:=by
  intro X hP hw hK hc i pins s σ H E I hf st hg
  subst hP hw hK
  obtain ⟨⟨old,he⟩,hit,hne⟩:=st
  obtain ⟨xs,hq,hx⟩:=hg
  obtain ⟨its,rv,p,hz⟩:=I.list hq
  obtain ⟨f0,f1,f2,f3,f4,f5⟩:=hf it (by simp)
  have hl:=rv.length
  exact wpAny_pyNext_enum_end (I.ok.hd hc) he hit p.isList (by simp;omega) fun h' eb=>⟨rfl,I.turned (t':=s.toks) (fun b o hb q=>eb b o hb q) f0 f1 f3 f4 f5⟩
 self:=fun A i s Q E st h=>let ⟨⟨_,he⟩,_⟩:=st;wpAny_pyIter_enum he h
def iEnum (K:PySem.W.Frag) (ta:TA):TI:=fun σ H R=>ta σ H fun vs H1=>∃ a xs,vs=[.ref a]/\SqL K H1 a xs/\R (Ite K a) H1
theorem pi_enum {X:Cx} {e:Expr} {ta:TA} {p pos tpos:Pos} {elts:List Expr} {kk:Nat} (hg:Gl X "enumerate") (hm:X.mg "enumerate"=none) (ha:PA X [e] ta) (hs:starEach [e] X.env=[(false,eval e X.env)]:=by rfl) :
  PI X (.Tuple elts kk tpos) (.Call (.Name "enumerate" p) [e] [] pos) (iEnum X.K ta):=by
 intro pins s σ H R I h
 refine Call_ (ld_blt I hg hm boot_enumerate (PyProof.Rows.callWith_type1 (thn (ha pos pins s σ H _ I h) fun us s1 ⟨vs,H1,I1,r1,q1⟩=>?_) hs rfl))
 obtain ⟨a,xs,ex,hq,q⟩:=q1
 subst ex
 cases r1 with
 | cons r rr=>
  cases rr
  cases r
  obtain ⟨its,rv,p',hz⟩:=I1.list hq
  refine call_enumerate_list p'.isList fun h' he hit hsz hk=>wpAny_pyIter_enum he ?_
  have I2:Inv X pins σ H1 { s1 with heap:=h' }:=I1.kept (t':=s1.toks) hk
  refine ⟨s1.heap.objs.size+1,[s1.heap.objs.size+1,s1.heap.objs.size],_,_,H1,rfl,I2,turn_enum a (s1.heap.objs.size+1) s1.heap.objs.size,⟨⟨.none,he⟩,hit,Nat.succ_ne_self _⟩,fun b hb=>?_,q⟩
  have e':b=s1.heap.objs.size+1\/b=s1.heap.objs.size:=by simpa using hb
  have hle:s1.heap.objs.size<=b:=by
   rcases e' with z | z
   ·rw [z];exact Nat.le_add_right _ _
   ·rw [z];exact Nat.le_refl _
  exact I1.fpOk hle (I1.hok.fresh hle)
theorem boot_zip5:bootBuiltins "zip"=some (.type "zip"):=by decide +kernel
def Itz (K:PySem.W.Frag) (a b:Addr):It:=
 ⟨fun i H=>∃ (xs ys:List V) (x y:V),SqL K H a xs/\SqL K H b ys/\xs[i]?=some x/\ys[i]?=some y,
  fun i H v H'=>∃ T x y,v=.ref T/\H T=none/\H'=upd H T (.tup [x,y])/\(∀ xs,SqL K H a xs->xs[i]?=some x)/\∀ ys,SqL K H b ys->ys[i]?=some y,
  fun i H=>∃ xs ys:List V,SqL K H a xs/\SqL K H b ys/\(xs.length<=i\/ys.length<=i)⟩
theorem turn_zip {P:Program} {w:World} {K:PySem.W.Frag} {elts:List Expr} {kk:Nat} {tpos:Pos} {a b z TI TO i1 i2:Addr} (D:ZipApart z TI TO i1 i2 a b) :
  Turn P w K (.Tuple elts kk tpos) (Itz K a b) [z,TI,TO,i1,i2] z (fun i h=>IsZip h z TI TO .none/\IsPair h TI (.ref i1) (.ref i2)/\(∃ x y,IsPair h TO x y)/\h.IsListIter i1 a i/\h.IsListIter i2 b i) where
 mem:=by simp
 obj:=fun i h st c hc=>by
  obtain ⟨hz,hTI,⟨x,y,hTO⟩,⟨o1,e1,_,d1⟩,⟨o2,e2,_,d2⟩⟩:=st
  have e':c=z\/c=TI\/c=TO\/c=i1\/c=i2:=by simpa using hc
  rcases e' with q | q | q | q | q
  ·rw [q];exact ⟨_,hz,fun v q=>nomatch q⟩
  ·rw [q];exact ⟨_,hTI,fun v q=>nomatch q⟩
  ·rw [q];exact ⟨_,hTO,fun v q=>nomatch q⟩
  ·rw [q];exact ⟨o1,e1,fun v q=>by rw [d1] at q;cases q⟩
  ·rw [q];exact ⟨o2,e2,fun v q=>by rw [d2] at q;cases q⟩
 keep:=fun i h h' st k=>by
  obtain ⟨hz,hTI,⟨x,y,hTO⟩,h1,h2⟩:=st
  exact ⟨k z (by simp) _ hz,k TI (by simp) _ hTI,⟨x,y,k TO (by simp) _ hTO⟩,h1.at fun o q=>k i1 (by simp) o q,h2.at fun o q=>k i2 (by simp) o q⟩
 item:=by
  intro X hP hw hK hc i pins s σ H E I hf st hg
  subst hP hw hK
  obtain ⟨hz,hTI,⟨x0,y0,hTO⟩,h1,h2⟩:=st
  obtain ⟨xs,ys,x,y,hqx,hqy,hx,hy⟩:=hg
  obtain ⟨its,rv,p,_⟩:=I.list hqx
  obtain ⟨its2,rv2,p2,_⟩:=I.list hqy
  obtain ⟨u,hu,ru⟩:=rv.get hx
  obtain ⟨u2,hu2,ru2⟩:=rv2.get hy
  have hzl:z<s.heap.objs.size:=Heap.lt_size hz
  refine wpAny_pyNext_zip_item D hz hTI hTO h1 h2 p.isList p2.isList (x:=u) (y:=u2) (by simpa using hu) (by simpa using hu2) fun h' z' TO' h1' h2' hT hsz hk=>?_
  refine ⟨_,rfl,wpAny_letOwnedTupleGo_zip (s:={ s with heap:=h' }) z' fun h'' z'' sb=>?_⟩
  have hT2:h''.get? s.heap.objs.size=some { cls:=.type "tuple",data:=.seq #[u,u2] }:=(sb.2 _ (Nat.ne_of_gt hzl)).trans hT
  have new:ObjOk X.prog X.w (upd H s.heap.objs.size (.tup [x,y])) h'' s.heap.objs.size (.tup [x,y]):=
   ⟨by show 2<=sizeLine;decide,[u,u2],.cons ru (.cons ru2 .nil),⟨_,hT2,rfl,_,rfl⟩⟩
  have I1:Inv X pins σ (upd H s.heap.objs.size (.tup [x,y])) { s with heap:=h'' }:=
   I.turnedNew (t':=s.toks) (ch:=[z,TI,TO,i1,i2]) (fun c o hb q=>(sb.2 c (fun q'=>hb (by simp [q']))).trans (hk c o (fun q'=>hb (by simp [q'])) (fun q'=>hb (by simp [q'])) (fun q'=>hb (by simp [q'])) (fun q'=>hb (by simp [q'])) q)) hf (Nat.le_refl _) new
  refine ⟨.ref s.heap.objs.size,_,I1,rfl,⟨_,x,y,rfl,I.hok.fresh (Nat.le_refl _),rfl,fun l hl=>by rw [I.list_inj hl hqx];exact hx,fun l hl=>by rw [I.list_inj hl hqy];exact hy⟩,⟨z'',?_,⟨u,u2,?_⟩,?_,?_⟩,fun c hcm=>?_⟩
  ·exact (sb.2 _ D.TIz).trans (hk _ _ D.TIz D.TITO D.TIi1 D.TIi2 hTI)
  ·exact (sb.2 _ D.TOz).trans TO'
  ·exact h1'.at fun o q=>(sb.2 _ D.i1z).trans q
  ·exact h2'.at fun o q=>(sb.2 _ D.i2z).trans q
  ·have hlt:c<s.heap.objs.size:=by
    have e':c=z\/c=TI\/c=TO\/c=i1\/c=i2:=by simpa using hcm
    rcases e' with q | q | q | q | q
    ·rw [q];exact hzl
    ·rw [q];exact Heap.lt_size hTI
    ·rw [q];exact Heap.lt_size hTO
    ·rw [q];obtain ⟨_,e1,_⟩:=h1;exact Heap.lt_size e1
    ·rw [q];obtain ⟨_,e2,_⟩:=h2;exact Heap.lt_size e2
   rw [upd_ne (Nat.ne_of_lt hlt)]
   exact (hf c hcm).1
 done:=by
  intro X hP hw hK hc i pins s σ H E I hf st hg
  subst hP hw hK
  obtain ⟨hz,hTI,⟨x0,y0,hTO⟩,h1,h2⟩:=st
  obtain ⟨xs,ys,hqx,hqy,hend⟩:=hg
  obtain ⟨its,rv,p,_⟩:=I.list hqx
  obtain ⟨its2,rv2,p2,_⟩:=I.list hqy
  have l1:=rv.length
  have l2:=rv2.length
  have he:its.toArray[i]?=none\/its2.toArray[i]?=none:=by
   rcases hend with q | q
   ·exact .inl (by simp;omega)
   ·exact .inr (by simp;omega)
  exact wpAny_pyNext_zip_end (I.ok.hd hc) D hz hTI hTO h1 h2 p.isList p2.isList he fun h' hk=>⟨rfl,I.turnedL (t':=s.toks) (ch:=[z,TI,TO,i1,i2]) (fun c o hb q=>
   hk c o (fun q'=>hb (by simp [q'])) (fun q'=>hb (by simp [q'])) (fun q'=>hb (by simp [q'])) (fun q'=>hb (by simp [q'])) q) hf⟩
 self:=fun A i s Q E st h=>wpAny_pyIter_zip st.1 h
def iZip (K:PySem.W.Frag) (ta:TA):TI:=fun σ H R=>ta σ H fun vs H1=>∃ a b xs ys,vs=[.ref a,.ref b]/\SqL K H1 a xs/\SqL K H1 b ys/\R (Itz K a b) H1
theorem pi_zip {X:Cx} {e e2:Expr} {ta:TA} {p pos tpos:Pos} {elts:List Expr} {kk:Nat} (hg:Gl X "zip") (hm:X.mg "zip"=none) (ha:PA X [e,e2] ta)
  (hs:starEach [e,e2] X.env=(false,eval e X.env)::starEach [e2] X.env:=by rfl) (hpl:(backTo pos (starEach [e2] X.env)).any (·.1)=false:=by rfl) :
  PI X (.Tuple elts kk tpos) (.Call (.Name "zip" p) [e,e2] [] pos) (iZip X.K ta):=by
 intro pins s σ H R I h
 refine Call_ (ld_blt I hg hm boot_zip5 (PyProof.Rows.callWith_type1 (thn (ha pos pins s σ H _ I h) fun us s1 ⟨vs,H1,I1,r1,q1⟩=>?_) hs hpl))
 obtain ⟨a,b,xs,ys,ex,hqx,hqy,q⟩:=q1
 subst ex
 cases r1 with
 | cons r rr=>
  cases rr with
  | cons r' rr=>
   cases rr
   cases r
   cases r'
   obtain ⟨its,rv,p1,_⟩:=I1.list hqx
   obtain ⟨its2,rv2,p2,_⟩:=I1.list hqy
   have la:a<s1.heap.objs.size:=p1.lt
   have lb:b<s1.heap.objs.size:=p2.lt
   refine call_zip_2 p1.isList p2.isList fun h' hz hTI hTO h1 h2 hsz hk=>wpAny_pyIter_zip hz ?_
   have I2:Inv X pins σ H1 { s1 with heap:=h' }:=I1.kept (t':=s1.toks) hk
   refine ⟨s1.heap.objs.size+4,[s1.heap.objs.size+4,s1.heap.objs.size+2,s1.heap.objs.size+3,s1.heap.objs.size,s1.heap.objs.size+1],_,_,H1,rfl,I2,turn_zip (PySem.W.ktu_apart s1.heap.objs.size a b la lb),⟨hz,hTI,⟨_,_,hTO⟩,h1,h2⟩,fun c hcm=>?_,q⟩
   have e':c=s1.heap.objs.size+4\/c=s1.heap.objs.size+2\/c=s1.heap.objs.size+3\/c=s1.heap.objs.size\/c=s1.heap.objs.size+1:=by simpa using hcm
   have hle:s1.heap.objs.size<=c:=by
    rcases e' with z | z | z | z | z
    ·rw [z];exact Nat.le_add_right _ _
    ·rw [z];exact Nat.le_add_right _ _
    ·rw [z];exact Nat.le_add_right _ _
    ·rw [z];exact Nat.le_refl _
    ·rw [z];exact Nat.le_add_right _ _
   exact I1.fpOk hle (I1.hok.fresh hle)
end L2
section
namespace Bits
open PySem PyProof.Rows
end Bits
end
namespace L2
open PySem PySem.Spec PyProof.Rows
def inClass (s:Stmt) (j:Nat):Stmt:=match s with
 | .ClassDef _ _ _ body _ _ _ _ _ _ _=>body.getD j (.Pass ⟨0,0,0,0⟩)
 | _=>.Pass ⟨0,0,0,0⟩
def defArgs (s:Stmt):Arguments:=match s with
 | .FunctionDef _ a _ _ _ _ _ _ _ _=>a
 | _=>{ posonlyargs:=[],args:=[],vararg:=none,kwonlyargs:=[],kw_defaults:=[],kwarg:=none,defaults:=[] }
def defBody (s:Stmt):List Stmt:=match s with
 | .FunctionDef _ _ b _ _ _ _ _ _ _=>b
 | _=>[]
def defScope (s:Stmt):Scope:=match s with
 | .FunctionDef _ _ _ _ _ _ sc _ _ _=>sc
 | _=>{ kind:=.function,names:=[],isGenerator:=false,isCoroutine:=false }
abbrev CX0:CXT:=fun _ _ _ _ _ _=>False
abbrev E0:XK:=fun _ _ _=>False
theorem pass0 {X:Cx}:Passes CX0 X E0:=fun _ _ _ _ _ _ _ h=>h.elim
structure Fun (K:PySem.W.Frag) (x qual:Str) (st:Stmt) (f:Addr) (fd:FuncData):Prop where
 ex:∃ (oc:Value) (od:Option Addr) (kV doc pm:Value) (an:Option Addr) (cdv ct:Value) (osl:Array (Option Value)),
  fd=PySem.W.fnOf x qual (defArgs st) (defBody st) (defScope st) .none kV doc pm an cdv ct/\K.lookup f=some ⟨oc,od,.func fd,osl⟩/\PySem.W.codeIn K cdv qual=true
 kp:PySem.W.keepIn K (.ref f)=true
section
variable {P:Program} {w:World} {K:PySem.W.Frag} {mg:Str->Option Value} {base:Heap}
theorem Fun.ok {x qual:Str} {st:Stmt} {f:Addr} {fd:FuncData} {N ps:List Str} {k:Nat} {sp:Sp} (F:Fun K x qual st f fd) (S:FnScope N ps (defScope st)) (len:∀ vs H Q E,sp vs H Q E->vs.length=ps.length)
  (hbody:∀ (cdv:Value) (A:Around) (outer:List Env) (s:Shared) (H:Hp) (vs:List V) (Q:VK) (E:XK),Room k (A.deeper (envOfC qual (defScope st) s.heap.objs.size f cdv))->sp vs H Q E ->
   ∃ t,PSs (cxOf CX0 P w K mg base N qual (defScope st) f cdv A outer s H E).nox (defBody st) t/\t { nx:=fun _ H'=>Q .non H',rt:=Q } (start N vs) H):FnOk P w K mg base CX0 (k+1) f fd ps sp:=by
 obtain ⟨oc,od,kV,doc,pm,an,cdv,ct,osl,rfl,lk,hcd⟩:=F.ex
 refine fn_of lk hcd S len fun A outer s H vs Q E hr hsp=>?_
 obtain ⟨t,h,q⟩:=hbody cdv A outer s H vs Q E hr hsp
 exact ⟨t,h.nox,q⟩
theorem Fun.binds {x qual:Str} {st:Stmt} {f:Addr} {fd:FuncData} {ps:List Str} (F:Fun K x qual st f fd)
  (h:∀ (kV doc pm:Value) (an:Option Addr) (cdv ct:Value) (us:List Value),us.length=ps.length->bindArgs (PySem.W.fnOf x qual (defArgs st) (defBody st) (defScope st) .none kV doc pm an cdv ct) ⟨us,[]⟩=pure (ps.zip us)):Binds K fd ps []:=by
 obtain ⟨oc,od,kV,doc,pm,an,cdv,ct,osl,rfl,lk,hcd⟩:=F.ex
 exact .all (h kV doc pm an cdv ct)
theorem fun_mk {x qual:Str} {st:Stmt} {f:Addr} {oc:Value} {od an:Option Addr} {osl:Array (Option Value)} {kV doc pm cdv ct:Value} (l:K.lookup f=some ⟨oc,od,.func (PySem.W.fnOf x qual (defArgs st) (defBody st) (defScope st) .none kV doc pm an cdv ct),osl⟩)
  (c:PySem.W.codeIn K cdv qual=true) (k:PySem.W.keepIn K (.ref f)=true):Fun K x qual st f (PySem.W.fnOf x qual (defArgs st) (defBody st) (defScope st) .none kV doc pm an cdv ct):=⟨⟨oc,od,kV,doc,pm,an,cdv,ct,osl,rfl,l,c⟩,k⟩
end
theorem hu_of {A:Around} {k:Nat} (hr:Room k A):A.units+1<cLine:=Nat.lt_of_le_of_lt (Nat.add_le_add_left (by decide:1<=64) _) hr.units
section
variable {X:Cx}
theorem pv (i:Nat) {x:Str} {pos:Pos} (hN:X.N[i]?=some x:=by rfl) (hv:Vis X.env.scope x:=by first | exact Or.inl rfl | exact Or.inr (Or.inl rfl) | exact Or.inr (Or.inr rfl)) (hd:(x==("__debug__":Str))=false:=by decide)
  (hcd:(x==("__classdict__":Str))=false:=by decide):PE X (.Name x pos) (tVar i):=pe_var hN hv hd hcd
end
theorem ite2 {c A B:Prop} [Decidable c] (h1:c->A) (h2:¬ c->B):if c then A else B:=by
 by_cases h:c
 ·rw [if_pos h]
  exact h1 h
 ·rw [if_neg h]
  exact h2 h
def Same (H H':Hp):Prop:=∀ b o,H b=some o->H' b=some o
theorem Same.refl (H:Hp):Same H H:=fun _ _ h=>h
theorem Same.trans {H H1 H2:Hp} (a:Same H H1) (b:Same H1 H2):Same H H2:=fun c o h=>b c o (a c o h)
theorem Same.free {H H':Hp} (e:Same H H') {l:Addr} (h:H' l=Option.none):H l=Option.none:=by
 cases q:H l with
 | none=>rfl
 | some o=>
  rw [e l o q] at h
  cases h
theorem Same.seq {K:PySem.W.Frag} {H H':Hp} {a:Addr} {xs:List V} (e:Same H H') (h:SqL K H a xs):SqL K H' a xs:=by
 rcases h with (h | ⟨o,h⟩) | h
 ·exact .inl (.inl (e _ _ h))
 ·exact .inl (.inr ⟨o,e _ _ h⟩)
 ·exact .inr h
section
variable {κ:Type} [DecidableEq κ]
theorem valV_not {kvs:List (κ × V)} {k:κ} (h:valV kvs k=none):¬ k ∈ kvs.map (·.1):=by
 intro m
 obtain ⟨p,hp,e⟩:=List.mem_map.mp m
 have q:(kvs.any fun kv=>decide (kv.1=k))=true:=List.any_eq_true.mpr ⟨p,hp,decide_eq_true e⟩
 rw [valV_any,h] at q
 exact absurd q (by simp)
theorem valV_in {kvs:List (κ × V)} {k:κ} {v:V} (h:valV kvs k=some v):k ∈ kvs.map (·.1):=by
 have q:(kvs.any fun kv=>decide (kv.1=k))=true:=by
  rw [valV_any,h]
  all_goals rfl
 obtain ⟨p,hp,e⟩:=List.any_eq_true.mp q
 exact List.mem_map.mpr ⟨p,hp,of_decide_eq_true e⟩
end
theorem at_of {xs:List V} {z:Int} {j:Nat} {v:V} (e:z=(j:Int)) (h:xs[j]?=some v):atI xs z=some v:=by
 rw [e]
 exact atI_nat h
theorem Same.made {H H1:Hp} {x dx C:Addr} (nx:H x=Option.none) (nd:H dx=Option.none) (k:∀ b o,(upd (upd H dx (.own x)) x (.ins C dx [])) b=some o->b ≠ x->H1 b=some o):Same H H1:=fun b o e=>
 k b o (by rw [upd_ne (ne_of_none e nx),upd_ne (ne_of_none e nd)];exact e) (ne_of_none e nx)
end L2
section
namespace L2
open PySem PySem.Spec PyProof.Rows
open PySem.W (WData Codec OpenSpec Well WellAll ReadsW ReadsAllW)
mutual
inductive Dw (K:PySem.W.Frag) (H:Hp):V->WData->Prop
 | non:Dw K H .non .none
 | bl (b:Bool):Dw K H (.bl b) (.bool b)
 | int (i:Int):Dw K H (.int i) (.int i)
 | str (x:Str):Dw K H (.str x) (.str x)
 | byt (b:Array UInt8):Dw K H (.byt b) (.bytes b.toList)
 | lst {a:Addr} {xs:List V} {ds:List WData}:SqL K H a xs->DwAll K H xs ds->Dw K H (.ref a) (.list ds)
 | tup {a:Addr} {xs:List V} {ds:List WData}:SqT K H a xs->DwAll K H xs ds->Dw K H (.ref a) (.tuple ds)
inductive DwAll (K:PySem.W.Frag) (H:Hp):List V->List WData->Prop
 | nil:DwAll K H [] []
 | cons {v:V} {vs:List V} {d:WData} {ds:List WData}:Dw K H v d->DwAll K H vs ds->DwAll K H (v::vs) (d::ds)
end
theorem dw_ints {K:PySem.W.Frag} {H:Hp}:∀ ns:List Int,DwAll K H (ns.map V.int) (ns.map WData.int)
 | []=>.nil
 | n::r=>.cons (.int n) (dw_ints r)
theorem ints_dw {K:PySem.W.Frag} {H:Hp}:∀ (ns:List Int) (xs:List V),DwAll K H xs (ns.map WData.int)->xs=ns.map V.int
 | [],xs,h=>by
  cases h
  rfl
 | n::r,xs,h=>by
  cases h with
  | cons h1 h2=>
   cases h1
   rw [ints_dw r _ h2] <;> rfl
section
variable {P:Program} {w:World} {K:PySem.W.Frag} {H:Hp} {h:Heap} {R:PySem.W.WRecords} {cl:Str->Option Addr}
theorem sqL_at {a:Addr} {xs:List V} (hok:HOk P w H h) (KX:K.In h) (q:SqL K H a xs):∃ (its:List Value) (o:Obj) (n:Nat),Vals xs its/\h.get? a=some o/\o.cls=.type "list"/\o.data=.seq its.toArray n:=by
 rcases q with q | ⟨o,its,n,e,hc,_,hd,_,hv⟩
 ·obtain ⟨_,its,n,hv,e⟩:=(show ObjOk P w H h a (.lst xs) from q.ok hok)
  exact ⟨its,_,n,hv,e,rfl,rfl⟩
 ·exact ⟨its.toList,o,n,hv,KX _ _ e,hc,by simp [hd]⟩
theorem sqT_at {a:Addr} {xs:List V} (hok:HOk P w H h) (KX:K.In h) (q:SqT K H a xs):∃ (its:List Value) (o:Obj) (n:Nat),Vals xs its/\h.get? a=some o/\o.cls=.type "tuple"/\o.data=.seq its.toArray n:=by
 rcases q with q | ⟨o,its,n,e,hc,hd,_,hv⟩
 ·obtain ⟨_,its,hv,o,e,hc,n,hd⟩:=(show ObjOk P w H h a (.tup xs) from q.ok hok)
  exact ⟨its,o,n,hv,e,hc,hd⟩
 ·exact ⟨its.toList,o,n,hv,KX _ _ e,hc,by simp [hd]⟩
mutual
theorem Dw.reads (hok:HOk P w H h) (KX:K.In h):∀ (d:WData) (v:V) (u:Value),Dw K H v d->RelV v u->∃ as,ReadsW R cl h u d as
 | .none,_,_,x,r=>by
  cases x
  cases r
  exact ⟨_,ReadsW.none⟩
 | .bool b,_,_,x,r=>by
  cases x
  cases r
  exact ⟨_,ReadsW.bool b⟩
 | .int i,_,_,x,r=>by
  cases x
  obtain ⟨t,rfl⟩:=r
  exact ⟨_,ReadsW.int i t⟩
 | .str s,_,_,x,r=>by
  cases x
  obtain ⟨t,rfl⟩:=r
  exact ⟨_,ReadsW.str s t⟩
 | .bytes b,_,_,x,r=>by
  cases x
  obtain ⟨t,rfl⟩:=r
  exact ⟨_,ReadsW.bytes _ t⟩
 | .list ds,_,_,x,r=>by
  cases x with
  | lst hs ha=>
   cases r
   obtain ⟨its,o,n,rv,ho,hc,hd⟩:=sqL_at hok KX hs
   obtain ⟨as,hr⟩:=Dw.readsAll hok KX ds _ its ha rv
   exact ⟨_,ReadsW.list ho hc hd hr⟩
 | .tuple ds,_,_,x,r=>by
  cases x with
  | tup hs ha=>
   cases r
   obtain ⟨its,o,n,rv,ho,hc,hd⟩:=sqT_at hok KX hs
   obtain ⟨as,hr⟩:=Dw.readsAll hok KX ds _ its ha rv
   exact ⟨_,ReadsW.tuple ho hc hd hr⟩
 | .float _,_,_,x,_=>by cases x
 | .dict _,_,_,x,_=>by cases x
 | .bytearray _,_,_,x,_=>by cases x
 | .set _,_,_,x,_=>by cases x
 | .frozenset _,_,_,x,_=>by cases x
 | .obj _ _,_,_,x,_=>by cases x
theorem Dw.readsAll (hok:HOk P w H h) (KX:K.In h):∀ (ds:List WData) (vs:List V) (us:List Value),DwAll K H vs ds->Vals vs us->∃ as,ReadsAllW R cl h us ds as
 | [],_,_,x,r=>by
  cases x
  cases r
  exact ⟨_,ReadsAllW.nil⟩
 | d::ds,_,_,x,r=>by
  cases x with
  | cons h1 h2=>
   cases r with
   | cons r1 r2=>
    obtain ⟨as,q1⟩:=Dw.reads hok KX d _ _ h1 r1
    obtain ⟨bs,q2⟩:=Dw.readsAll hok KX ds _ _ h2 r2
    exact ⟨_,ReadsAllW.cons q1 q2⟩
end
end
mutual
def plW:WData->Bool
 | .none=>true
 | .bool _=>true
 | .int _=>true
 | .str _=>true
 | .bytes _=>true
 | .list xs=>plWs xs
 | .tuple xs=>plWs xs
 | _=>false
def plWs:List WData->Bool
 | []=>true
 | x::r=>plW x && plWs r
end
theorem plWs_map {α:Type} {f:α->WData} (h:∀ a,plW (f a)=true):∀ l:List α,plWs (l.map f)=true
 | []=>rfl
 | x::r=>by
  show (plW (f x) && plWs (r.map f))=true
  rw [h x,plWs_map h r] <;> rfl
theorem pl_enc:∀ (c:Codec) (a:c.denote),plW (c.enc a)=true
 | .unit,_=>rfl
 | .bool,_=>rfl
 | .int _ _,_=>rfl
 | .nat _ _,_=>rfl
 | .u8,_=>rfl
 | .bytes _ _,_=>rfl
 | .text _ _ _ _,_=>rfl
 | .list _ _ c,a=>plWs_map (fun x=>pl_enc c x) a
 | .pair c d,a=>by
  show (plW (c.enc a.1) && (plW (d.enc a.2) && true))=true
  rw [pl_enc c a.1,pl_enc d a.2] <;> rfl
 | .triple c d e,a=>by
  show (plW (c.enc a.1) && (plW (d.enc a.2.1) && (plW (e.enc a.2.2) && true)))=true
  rw [pl_enc c a.1,pl_enc d a.2.1,pl_enc e a.2.2] <;> rfl
 | .option c,none=>rfl
 | .option c,some x=>pl_enc c x
theorem pl_encAll:∀ (cs:List Codec) (a:Codec.denoteAll cs),plWs (Codec.encAll cs a)=true
 | [],_=>rfl
 | c::cs,a=>by
  show (plW (c.enc a.1) && plWs (Codec.encAll cs a.2))=true
  rw [pl_enc c a.1,pl_encAll cs a.2] <;> rfl
theorem weight_mem:∀ {xs:List WData} {d:WData},d ∈ xs->d.weight<=WData.weightAll xs
 | [],d,h=>absurd h (by simp)
 | x::r,d,h=>by
  show d.weight<=x.weight+1+WData.weightAll r
  rcases List.mem_cons.mp h with e | m
  ·rw [e]
   omega
  ·have z:=weight_mem m
   omega
def toV:Value->V
 | .none=>.non
 | .bool b=>.bl b
 | .int i _=>.int i
 | .str x _=>.str x
 | .bytes b _=>.byt b
 | .ref a=>.ref a
 | _=>.non
def OkU (A:List Addr):Value->Prop
 | .none=>True
 | .bool _=>True
 | .int _ _=>True
 | .str _ _=>True
 | .bytes _ _=>True
 | .ref a=>a ∈ A
 | _=>False
theorem OkU.mono {A B:List Addr} (h:∀ a ∈ A,a ∈ B):∀ {u:Value},OkU A u->OkU B u:=fun {u} x=>by
 cases u with
 | ref a=>exact h a x
 | none=>trivial
 | bool b=>trivial
 | int i t=>trivial
 | str s t=>trivial
 | bytes b t=>trivial
 | _=>exact False.elim x
theorem relV_toV {A:List Addr} {u:Value} (x:OkU A u):RelV (toV u) u:=by
 cases u with
 | ref a=>rfl
 | none=>rfl
 | bool b=>rfl
 | int i t=>exact ⟨t,rfl⟩
 | str s t=>exact ⟨t,rfl⟩
 | bytes b t=>exact ⟨t,rfl⟩
 | _=>exact False.elim x
theorem vals_toV {A:List Addr}:∀ {vs:List Value},(∀ u ∈ vs,OkU A u)->Vals (vs.map toV) vs
 | [],_=>.nil
 | u::r,h=>.cons (relV_toV (h u (List.mem_cons_self ..))) (vals_toV fun x hx=>h x (List.mem_cons_of_mem _ hx))
def ArgOb (h:Heap) (A:List Addr) (a:Addr):Prop:=∃ vs:List Value,vs.length<=sizeLine/\(∀ u ∈ vs,OkU A u)/\
 (h.get? a=some { cls:=.type "list",data:=.seq vs.toArray }\/h.get? a=some { cls:=.type "tuple",data:=.seq vs.toArray })
theorem ArgOb.mono {h:Heap} {A B:List Addr} {a:Addr} (k:∀ a ∈ A,a ∈ B) (x:ArgOb h A a):ArgOb h B a:=by
 obtain ⟨vs,h1,h2,h3⟩:=x
 exact ⟨vs,h1,fun u hu=>(h2 u hu).mono k,h3⟩
theorem wellAll_len {P:Params} {h:Heap}:∀ {vs:List Value} {ds:List WData},WellAll P h vs ds->vs.length=ds.length
 | _,_,.nil=>rfl
 | _,_,.cons _ b=>by
  show _+1=_+1
  rw [wellAll_len b]
theorem well_list {P:Params} {h:Heap} {v:Value} {ds:List WData} (x:Well P h v (.list ds)):∃ (a:Addr) (vs:List Value),v=.ref a/\h.get? a=some { cls:=.type "list",data:=.seq vs.toArray }/\WellAll P h vs ds:=by
 cases x with
 | list ho hall=>exact ⟨_,_,rfl,ho,hall⟩
theorem well_tuple {P:Params} {h:Heap} {v:Value} {ds:List WData} (x:Well P h v (.tuple ds)):∃ (a:Addr) (vs:List Value),v=.ref a/\h.get? a=some { cls:=.type "tuple",data:=.seq vs.toArray }/\WellAll P h vs ds:=by
 cases x with
 | tuple ho hall=>exact ⟨_,_,rfl,ho,hall⟩
theorem well_cons {P:Params} {h:Heap} {us:List Value} {d:WData} {ds:List WData} (x:WellAll P h us (d::ds)):∃ (v:Value) (vs:List Value),us=v::vs/\Well P h v d/\WellAll P h vs ds:=by
 cases x with
 | cons a b=>exact ⟨_,_,rfl,a,b⟩
theorem line_of {n:Nat} (h:n<=1048576):n<=sizeLine:=Nat.le_trans h (by decide)
section
variable {P:Params} {h:Heap}
mutual
theorem area_one:∀ (d:WData) (v:Value),Well P h v d->plW d=true->d.weight<=1048576->∃ A:List Addr,OkU A v/\∀ a ∈ A,ArgOb h A a
 | .none,_,x,_,_=>by
  cases x
  exact ⟨[],trivial,fun a m=>absurd m (by simp)⟩
 | .bool b,_,x,_,_=>by
  cases x
  exact ⟨[],trivial,fun a m=>absurd m (by simp)⟩
 | .int i,_,x,_,_=>by
  cases x
  exact ⟨[],trivial,fun a m=>absurd m (by simp)⟩
 | .str s,_,x,_,_=>by
  cases x
  exact ⟨[],trivial,fun a m=>absurd m (by simp)⟩
 | .bytes b,_,x,_,_=>by
  cases x
  exact ⟨[],trivial,fun a m=>absurd m (by simp)⟩
 | .list ds,_,x,p,z=>by
  obtain ⟨a,vs,rfl,ho,hall⟩:=well_list x
  have z2:WData.weightAll ds<=1048576:=z
  obtain ⟨A,h1,h2⟩:=area_all ds _ hall p fun d hd=>Nat.le_trans (weight_mem hd) z2
  have k:∀ b ∈ A,b ∈ a::A:=fun b hb=>List.mem_cons_of_mem _ hb
  refine ⟨a::A,List.mem_cons_self ..,fun b hb=>?_⟩
  rcases List.mem_cons.mp hb with e | m
  ·rw [e]
   exact ⟨vs,line_of (by rw [wellAll_len hall];exact Nat.le_trans (PySem.W.length_le_weightAllW ds) z2),fun u hu=>(h1 u hu).mono k,.inl ho⟩
  ·exact (h2 b m).mono k
 | .tuple ds,_,x,p,z=>by
  obtain ⟨a,vs,rfl,ho,hall⟩:=well_tuple x
  have z2:WData.weightAll ds<=1048576:=z
  obtain ⟨A,h1,h2⟩:=area_all ds _ hall p fun d hd=>Nat.le_trans (weight_mem hd) z2
  have k:∀ b ∈ A,b ∈ a::A:=fun b hb=>List.mem_cons_of_mem _ hb
  refine ⟨a::A,List.mem_cons_self ..,fun b hb=>?_⟩
  rcases List.mem_cons.mp hb with e | m
  ·rw [e]
   exact ⟨vs,line_of (by rw [wellAll_len hall];exact Nat.le_trans (PySem.W.length_le_weightAllW ds) z2),fun u hu=>(h1 u hu).mono k,.inr ho⟩
  ·exact (h2 b m).mono k
 | .float _,_,_,p,_=>Bool.noConfusion (show false=true from p)
 | .dict _,_,_,p,_=>Bool.noConfusion (show false=true from p)
 | .bytearray _,_,_,p,_=>Bool.noConfusion (show false=true from p)
 | .set _,_,_,p,_=>Bool.noConfusion (show false=true from p)
 | .frozenset _,_,_,p,_=>Bool.noConfusion (show false=true from p)
 | .obj _ _,_,_,p,_=>Bool.noConfusion (show false=true from p)
theorem area_all:∀ (ds:List WData) (vs:List Value),WellAll P h vs ds->plWs ds=true->(∀ d ∈ ds,d.weight<=1048576)->∃ A:List Addr,(∀ u ∈ vs,OkU A u)/\∀ a ∈ A,ArgOb h A a
 | [],_,x,_,_=>by
  cases x
  exact ⟨[],fun u m=>absurd m (by simp),fun a m=>absurd m (by simp)⟩
 | d::ds,_,x,p,z=>by
  obtain ⟨v,vs,rfl,x1,x2⟩:=well_cons x
  have q:plW d=true/\plWs ds=true:=Bool.and_eq_true_iff.mp p
  obtain ⟨A,a1,a2⟩:=area_one d v x1 q.1 (z d (List.mem_cons_self ..))
  obtain ⟨B,b1,b2⟩:=area_all ds vs x2 q.2 fun e he=>z e (List.mem_cons_of_mem _ he)
  have kA:∀ b ∈ A,b ∈ A++B:=fun b hb=>List.mem_append.mpr (.inl hb)
  have kB:∀ b ∈ B,b ∈ A++B:=fun b hb=>List.mem_append.mpr (.inr hb)
  refine ⟨A++B,fun u hu=>?_,fun b hb=>?_⟩
  ·rcases List.mem_cons.mp hu with e | m
   ·rw [e]
    exact a1.mono kA
   ·exact (b1 u m).mono kB
  ·rcases List.mem_append.mp hb with m | m
   ·exact (a2 b m).mono kA
   ·exact (b2 b m).mono kB
end
end
def hoOf (o:Obj):Option HO:=match o.data with
 | .seq vs _=>if (o.cls==Value.type "list")=true then some (.frz o (.lst (vs.toList.map toV))) else some (.frz o (.tup (vs.toList.map toV)))
 | _=>none
def argH (K:PySem.W.Frag) (h:Heap) (A:List Addr):Hp:=fun b=>if b ∈ A then (if (K.lookup b).isNone=true then (h.get? b).bind hoOf else none) else none
def OnlyF (H:Hp):Prop:=∀ b,H b=none\/∃ o u,H b=some (.frz o u)
theorem hoOf_lst (vs:List Value):hoOf { cls:=.type "list",data:=.seq vs.toArray }=some (.frz { cls:=.type "list",data:=.seq vs.toArray } (.lst (vs.map toV))):=by
 show (if (Value.type "list"==Value.type "list")=true then some (HO.frz { cls:=.type "list",data:=.seq vs.toArray } (.lst (vs.toArray.toList.map toV))) else some (HO.frz { cls:=.type "list",data:=.seq vs.toArray } (.tup (vs.toArray.toList.map toV))))=_
 rw [if_pos (beq_self_eq_true _)]
theorem hoOf_tup (vs:List Value):hoOf { cls:=.type "tuple",data:=.seq vs.toArray }=some (.frz { cls:=.type "tuple",data:=.seq vs.toArray } (.tup (vs.map toV))):=by
 show (if (Value.type "tuple"==Value.type "list")=true then some (HO.frz { cls:=.type "tuple",data:=.seq vs.toArray } (.lst (vs.toArray.toList.map toV))) else some (HO.frz { cls:=.type "tuple",data:=.seq vs.toArray } (.tup (vs.toArray.toList.map toV))))=_
 rw [if_neg (by decide)]
section
variable {P:Program} {w:World} {K:PySem.W.Frag} {h:Heap} {A:List Addr}
theorem argH_at {b:Addr} {o:Obj} (hb:b ∈ A) (hk:K.lookup b=none) (e:h.get? b=some o):argH K h A b=hoOf o:=by
 unfold argH
 rw [if_pos hb,hk,if_pos (show (none:Option Obj).isNone=true from rfl),e] <;> rfl
theorem of_argH {b:Addr} {u:HO} (q:argH K h A b=some u):b ∈ A/\K.lookup b=none:=by
 unfold argH at q
 by_cases hb:b ∈ A
 ·rw [if_pos hb] at q
  cases hk:K.lookup b with
  | none=>exact ⟨hb,rfl⟩
  | some o=>
   rw [hk,if_neg (by simp)] at q
   cases q
 ·rw [if_neg hb] at q
  cases q
theorem argH_is (ar:∀ a ∈ A,ArgOb h A a) {b:Addr} {u:HO} (q:argH K h A b=some u):K.lookup b=none/\∃ vs:List Value,vs.length<=sizeLine/\(∀ u ∈ vs,OkU A u)/\
  ((h.get? b=some { cls:=.type "list",data:=.seq vs.toArray }/\u=.frz { cls:=.type "list",data:=.seq vs.toArray } (.lst (vs.map toV))) ∨
   (h.get? b=some { cls:=.type "tuple",data:=.seq vs.toArray }/\u=.frz { cls:=.type "tuple",data:=.seq vs.toArray } (.tup (vs.map toV)))):=by
 obtain ⟨hb,hk⟩:=of_argH q
 obtain ⟨vs,h1,h2,h3⟩:=ar b hb
 refine ⟨hk,vs,h1,h2,?_⟩
 rcases h3 with e | e
 ·rw [argH_at hb hk e,hoOf_lst] at q
  exact .inl ⟨e,(Option.some.inj q).symm⟩
 ·rw [argH_at hb hk e,hoOf_tup] at q
  exact .inr ⟨e,(Option.some.inj q).symm⟩
theorem argH_only (ar:∀ a ∈ A,ArgOb h A a):OnlyF (argH K h A):=fun b=>by
 cases q:argH K h A b with
 | none=>exact .inl rfl
 | some u=>
  obtain ⟨_,vs,_,_,⟨_,e⟩ | ⟨_,e⟩⟩:=argH_is ar q
  ·exact .inr ⟨_,_,by rw [e]⟩
  ·exact .inr ⟨_,_,by rw [e]⟩
theorem argH_ok (ar:∀ a ∈ A,ArgOb h A a):HOk P w (argH K h A) h:=fun b u q=>by
 obtain ⟨_,vs,h1,h2,⟨e,rfl⟩ | ⟨e,rfl⟩⟩:=argH_is ar q
 ·exact ⟨e,by rw [List.length_map];exact h1,vs,_,vals_toV h2,e⟩
 ·exact ⟨e,by rw [List.length_map];exact h1,vs,vals_toV h2,_,e,rfl,_,rfl⟩
theorem seq_inj {c c':Value} {vs us:List Value} (e:(some { cls:=c,data:=.seq vs.toArray }:Option Obj)=some { cls:=c',data:=.seq us.toArray }):c=c'/\vs=us:=by
 have e1:=Option.some.inj e
 have e2:c=c':=congrArg Obj.cls e1
 have e3:Data.seq vs.toArray=Data.seq us.toArray:=congrArg Obj.data e1
 injection e3 with e4
 refine ⟨e2,?_⟩
 have e5:=congrArg Array.toList e4
 simpa using e5
theorem argL (KX:K.In h) (ar:∀ a ∈ A,ArgOb h A a) {a:Addr} {vs:List Value} (ha:a ∈ A) (e:h.get? a=some { cls:=.type "list",data:=.seq vs.toArray }):(∀ u ∈ vs,OkU A u)/\SqL K (argH K h A) a (vs.map toV):=by
 obtain ⟨us,h1,h2,h3⟩:=ar a ha
 have hu:us=vs:=by
  rcases h3 with q | q
  ·rw [e] at q
   exact (seq_inj q).2.symm
  ·rw [e] at q
   exact absurd (Value.type.inj (seq_inj q).1) (by decide)
 subst hu
 refine ⟨h2,?_⟩
 cases hk:K.lookup a with
 | none=>exact .inl (.inr ⟨_,by rw [argH_at ha hk e,hoOf_lst]⟩)
 | some o=>
  have e2:=KX a o hk
  rw [e] at e2
  obtain rfl:=Option.some.inj e2
  exact .inr ⟨_,us.toArray,_,hk,rfl,rfl,rfl,by rw [List.size_toArray];exact h1,by simpa using vals_toV h2⟩
theorem argT (KX:K.In h) (ar:∀ a ∈ A,ArgOb h A a) {a:Addr} {vs:List Value} (ha:a ∈ A) (e:h.get? a=some { cls:=.type "tuple",data:=.seq vs.toArray }):(∀ u ∈ vs,OkU A u)/\SqT K (argH K h A) a (vs.map toV):=by
 obtain ⟨us,h1,h2,h3⟩:=ar a ha
 have hu:us=vs:=by
  rcases h3 with q | q
  ·rw [e] at q
   exact absurd (Value.type.inj (seq_inj q).1) (by decide)
  ·rw [e] at q
   exact (seq_inj q).2.symm
 subst hu
 refine ⟨h2,?_⟩
 cases hk:K.lookup a with
 | none=>exact .inl (.inr ⟨_,by rw [argH_at ha hk e,hoOf_tup]⟩)
 | some o=>
  have e2:=KX a o hk
  rw [e] at e2
  obtain rfl:=Option.some.inj e2
  exact .inr ⟨_,us.toArray,_,hk,rfl,rfl,by rw [List.size_toArray];exact h1,by simpa using vals_toV h2⟩
mutual
theorem dw_one {Pm:Params} (KX:K.In h) (ar:∀ a ∈ A,ArgOb h A a):∀ (d:WData) (v:Value),Well Pm h v d->plW d=true->OkU A v->Dw K (argH K h A) (toV v) d
 | .none,_,x,_,_=>by
  cases x
  exact .non
 | .bool b,_,x,_,_=>by
  cases x
  exact .bl b
 | .int i,_,x,_,_=>by
  cases x
  exact .int i
 | .str s,_,x,_,_=>by
  cases x
  exact .str s
 | .bytes b,_,x,_,_=>by
  cases x
  have z:=Dw.byt (K:=K) (H:=argH K h A) b.toArray
  exact z
 | .list ds,_,x,p,hu=>by
  obtain ⟨a,vs,rfl,ho,hall⟩:=well_list x
  obtain ⟨h2,hs⟩:=argL KX ar hu ho
  exact .lst hs (dw_all KX ar ds _ hall p h2)
 | .tuple ds,_,x,p,hu=>by
  obtain ⟨a,vs,rfl,ho,hall⟩:=well_tuple x
  obtain ⟨h2,hs⟩:=argT KX ar hu ho
  exact .tup hs (dw_all KX ar ds _ hall p h2)
 | .float _,_,_,p,_=>Bool.noConfusion (show false=true from p)
 | .dict _,_,_,p,_=>Bool.noConfusion (show false=true from p)
 | .bytearray _,_,_,p,_=>Bool.noConfusion (show false=true from p)
 | .set _,_,_,p,_=>Bool.noConfusion (show false=true from p)
 | .frozenset _,_,_,p,_=>Bool.noConfusion (show false=true from p)
 | .obj _ _,_,_,p,_=>Bool.noConfusion (show false=true from p)
theorem dw_all {Pm:Params} (KX:K.In h) (ar:∀ a ∈ A,ArgOb h A a):∀ (ds:List WData) (vs:List Value),WellAll Pm h vs ds->plWs ds=true->(∀ u ∈ vs,OkU A u)->DwAll K (argH K h A) (vs.map toV) ds
 | [],_,x,_,_=>by
  cases x
  exact .nil
 | d::ds,_,x,p,hu=>by
  obtain ⟨v,vs,rfl,x1,x2⟩:=well_cons x
  have q:plW d=true/\plWs ds=true:=Bool.and_eq_true_iff.mp p
  exact .cons (dw_one KX ar d v x1 q.1 (hu _ (List.mem_cons_self ..))) (dw_all KX ar ds vs x2 q.2 fun u m=>hu u (List.mem_cons_of_mem _ m))
end
end
theorem spec_call {P:Program} {w:World} {K:PySem.W.Frag} {mg mb:Str->Option Value} {CX:CXT} {k:Nat} {fa:Addr} {fd:FuncData} {ps:List Str} {sp:Sp} {s₁:Shared} {vals:List Value} {ds:List WData} {R:PySem.W.WRecords} {cl:Str->Option Addr} {d0:WData}
  (KX:K.In s₁.heap) (hns:s₁.heap.Ns mainGlobals mg) (hb:s₁.heap.Ns builtinsNs mb) (hbb:∀ x:Str,x ≠ "__name__"->mb x=bootBuiltins x) (hlim:s₁.heap.NoLimit) (hg:s₁.gens=#[])
  (hwl:WellAll w.params s₁.heap vals ds) (hpl:plWs ds=true) (hwt:∀ d ∈ ds,d.weight<=1048576) (hr:Room k callerA)
  (F:∀ base:Heap,K.In base->base.Ns mainGlobals mg->FnOk P w K mg base CX k fa fd ps sp) (hbind:∀ (s:Shared) (us:List Value),us.length=ps.length->BindsTo s fd ⟨us,[]⟩ (ps.zip us)) (hlen:ds.length=ps.length)
  (hsp:∀ (H:Hp) (xs:List V),OnlyF H->DwAll K H xs ds->sp xs H (fun v H'=>Dw K H' v d0) fun _ _ _=>False)
  (hCX:∀ H e s',CX [] H s₁ (fun _ _ _=>False) e s'->False) :
  codeAny (model P w) callerA (.call (.ref fa) ⟨vals,[]⟩) (fun r s'=>∃ u as,r=.ok (.ret u)/\ReadsW R cl s'.heap u d0 as/\OldK s₁.heap s'.heap/\s'.os=s₁.os/\AllBare s'.gens) s₁:=by
 obtain ⟨A,ho,ar⟩:=area_all ds vals hwl hpl hwt
 have hO:OnlyF (argH K s₁.heap A):=argH_only ar
 have hok:HOk P w (argH K s₁.heap A) s₁.heap:=argH_ok ar
 have hS:=dw_all KX ar ds vals hwl hpl ho
 have hV:=vals_toV ho
 have hK:∀ b u,argH K s₁.heap A b=some u->K.lookup b=none:=fun b u q=>(argH_is ar q).1
 have noA:∀ {b:Addr} {o:Obj} {es:Array DictEntry} {ep:Nat},s₁.heap.get? b=some o->o.data=.dict es ep->argH K s₁.heap A b=none:=fun {b o es ep} e d=>by
  cases q:argH K s₁.heap A b with
  | none=>rfl
  | some u=>
   obtain ⟨_,vs,_,_,⟨e2,_⟩ | ⟨e2,_⟩⟩:=argH_is ar q
   ·rw [e2] at e
    cases e
    have d':Data.seq vs.toArray _=Data.dict es ep:=d
    cases d'
   ·rw [e2] at e
    cases e
    have d':Data.seq vs.toArray _=Data.dict es ep:=d
    cases d'
 generalize argH K s₁.heap A=H at hO hok hS hK noA
 have base_of:∀ {b:Addr} {o:Obj},s₁.heap.get? b=some o->H b=none->(hidT s₁.heap H).get? b=some o:=fun e n=>hidT_get e n
 have nsK:∀ {b:Addr} {m:Str->Option Value},s₁.heap.Ns b m->(hidT s₁.heap H).Ns b m:=fun {b m} ⟨o,es,ep,e,d,r⟩=>⟨o,es,ep,base_of e (noA e d),d,r⟩
 have nK:∀ b o,K.lookup b=some o->H b=none:=fun b o e=>by
  cases q:H b with
  | none=>rfl
  | some u=>
   rw [hK b u q] at e
   cases e
 have hKb:K.In (hidT s₁.heap H):=fun b o e=>base_of (KX b o e) (nK b o e)
 have hM:Mod K mg (hidT s₁.heap H):=⟨hKb,nsK hns,⟨mb,nsK hb,hbb⟩,let ⟨mc,h1,h2⟩:=hlim;⟨mc,nsK h1,h2⟩⟩
 have e0:Env0 P w K mg (hidT s₁.heap H) callerA [] s₁ H:=⟨rfl,hM,fun b o e=>of_hidT e,Nat.le_of_eq (hidT_size _ _),trivial,fun b hb=>absurd (show b ∈ ([]:List Addr) from hb) (by simp),hok,.of_eq hg⟩
 have hl:vals.length=ps.length:=by rw [wellAll_len hwl];exact hlen
 refine codeAny_mono ((F _ hKb (nsK hns)).run callerA [] s₁ H ⟨vals,[]⟩ vals (vals.map toV) _ _ hr e0 (hbind s₁ vals hl) hV (hsp H _ hO hS)) fun r s' x=>?_
 cases r with
 | error e=>exact (hCX H e s' x).elim
 | ok fl=>
  cases fl with
  | next=>exact False.elim x
  | brk=>exact False.elim x
  | cont=>exact False.elim x
  | ret u=>
   obtain ⟨v,H',os,bare,un,hok',r',q⟩:=x
   have kept:∀ b o,s₁.heap.get? b=some o->s'.heap.get? b=some o:=fun b o e=>by
    cases q2:H b with
    | none=>exact un.keep b o e q2 (by intro z;exact absurd (show b ∈ ([]:List Addr) from z) (by simp)) (by simp)
    | some u2=>
     rcases hO b with z | ⟨ob,u3,z⟩
     ·rw [q2] at z
      cases z
     ·have z2:=un.frzs b ob _ z
      obtain ⟨e1,_⟩:=hok b _ z
      obtain ⟨e2,_⟩:=hok' b _ z2
      rw [e] at e1
      cases e1
      exact e2
   have KX':K.In s'.heap:=fun b o e=>kept b o (KX b o e)
   obtain ⟨as,hrd⟩:=Dw.reads (R:=R) (cl:=cl) hok' KX' d0 v u q r'
   exact ⟨u,as,rfl,hrd,OldK.of_keep kept,os,bare⟩
theorem layable_weight {ds:List WData} (h:WData.layableAll ds=true):∀ d ∈ ds,d.weight<=1048576:=fun d hd=>
 (PySem.W.layableW_iff.mp (List.all_eq_true.mp h d hd)).2.2
theorem encAll_len:∀ (cs:List Codec) (a:Codec.denoteAll cs),(Codec.encAll cs a).length=cs.length
 | [],_=>rfl
 | c::cs,a=>by
  show (Codec.encAll cs a.2).length+1=cs.length+1
  rw [encAll_len cs a.2]
theorem walk_spec {r:OpenSpec} {k:Nat} {q:Program} {loose:List Str} {XP:(Str->Option Value)->Heap->Prop} {YP:World->Heap->Prop} {d:DefRec} {K:Params->PySem.W.Frag} {CX:World->CXT} {ps:List Str} {sp:World->Sp}
  (hwell:r.wellSaid=true) (hdf:d.params.defaults=[]) (hlen:r.args.length=ps.length) (hr:Room k callerA)
  (hY:∀ (w:World) (h:Heap),YP w h->(K w.params).In h)
  (F:∀ (w:World) (mg:Str->Option Value) (fa:Addr) (h:Heap),YP w h->(K w.params).In h->h.Ns mainGlobals mg->mg d.name=some (.ref fa) ->
   ∃ fd:FuncData,(∀ (s:Shared) (us:List Value),us.length=ps.length->BindsTo s fd ⟨us,[]⟩ (ps.zip us))/\
    ∀ base:Heap,(K w.params).In base->base.Ns mainGlobals mg->FnOk r.prog w (K w.params) mg base (CX w) k fa fd ps (sp w))
  (hsp:∀ (w:World) (H:Hp) (xs:List V) (a:Codec.denoteAll r.args),OnlyF H->Codec.withinAll r.args a=true->Codec.app r.args r.asked a=true->DwAll (K w.params) H xs (Codec.encAll r.args a) ->
   sp w xs H (fun v H'=>Dw (K w.params) H' v (r.ret.enc (Codec.app r.args r.f a))) fun _ _ _=>False)
  (hCX:∀ (w:World) (H:Hp) (s:Shared) (e:Value) (s':Shared),CX w [] H s (fun _ _ _=>False) e s'->False) :
  PySem.W.WalkOS q loose XP YP r d [] (fun f vs=>PySem.call f vs):=by
 intro w s_0 s₁ mg mb G Y fa o pm cd doc dV kV ho hd hcd hD hmg hg args vals as hpre hlay hrd hwl hlo
 obtain ⟨a,e1,e2⟩:=PySem.W.os_pre_some hpre
 obtain ⟨e3,hwi⟩:=Codec.encAll_of_decAll r.args args a e1
 subst e3
 have KX:=hY w _ Y
 obtain ⟨fd,hb,hF⟩:=F w mg fa _ Y KX G.T.g hmg
 refine PySem.W.enter_call (codeAny_mono (spec_call (R:=[]) (cl:=classAt s_0.heap) (d0:=r.ret.enc (Codec.app r.args r.f a)) KX G.T.g G.T.b G.T.builtins G.T.nolimit hg hwl (pl_encAll _ _) (layable_weight hlay) hr hF hb (by rw [encAll_len];exact hlen)
  (fun H xs hO hS=>hsp w H xs a hO hwi e2 hS) fun H e s'=>hCX w H s₁ e s') fun r' s' hq=>?_)
 obtain ⟨u,as',rfl,h1,h2,h3,h4⟩:=hq
 exact ⟨.inl ⟨u,_,as',rfl,fun _=>rfl,h1,(OpenSpec.post_iff hwell hwi _ _).mpr rfl,fun z=>Bool.noConfusion (show false=true from z)⟩,h2,h3,h4⟩
theorem walk_specK {r:OpenSpec} {k:Nat} {q:Program} {loose:List Str} {XP:(Str->Option Value)->Heap->Prop} {YP:World->Heap->Prop} {d:DefRec} {K:Params->PySem.W.Frag} {CX:CXT} {ps:List Str} {sp:PySem.W.Frag->Sp}
  (hwell:r.wellSaid=true) (hdf:d.params.defaults=[]) (hlen:r.args.length=ps.length) (hr:Room k callerA)
  (hY:∀ (w:World) (h:Heap),YP w h->(K w.params).In h)
  (F:∀ (w:World) (mg:Str->Option Value) (fa:Addr) (h:Heap),YP w h->(K w.params).In h->h.Ns mainGlobals mg->mg d.name=some (.ref fa) ->
   ∃ fd:FuncData,(∀ (s:Shared) (us:List Value),us.length=ps.length->BindsTo s fd ⟨us,[]⟩ (ps.zip us))/\
    ∀ base:Heap,(K w.params).In base->base.Ns mainGlobals mg->FnOk r.prog w (K w.params) mg base CX k fa fd ps (sp (K w.params)))
  (hsp:∀ (K:PySem.W.Frag) (H:Hp) (xs:List V) (a:Codec.denoteAll r.args),OnlyF H->Codec.withinAll r.args a=true->Codec.app r.args r.asked a=true->DwAll K H xs (Codec.encAll r.args a) ->
   sp K xs H (fun v H'=>Dw K H' v (r.ret.enc (Codec.app r.args r.f a))) fun _ _ _=>False)
  (hCX:∀ (H:Hp) (s:Shared) (e:Value) (s':Shared),CX [] H s (fun _ _ _=>False) e s'->False) :
  PySem.W.WalkOS q loose XP YP r d [] (fun f vs=>PySem.call f vs):=
 walk_spec (K:=K) (CX:=fun _=>CX) (sp:=fun w=>sp (K w.params)) hwell hdf hlen hr hY F (fun w H xs a h1 h2 h3 h4=>hsp (K w.params) H xs a h1 h2 h3 h4) fun _ H s e s'=>hCX H s e s'
end L2
end
namespace My
theorem foldl_add (l:List Nat) (a:Nat):l.foldl (fun a b=>a+b) a=a+l.sum:=by
 induction l generalizing a with
 | nil=>simp
 | cons x r ih=>simp only [List.foldl_cons,List.sum_cons,ih];omega
theorem foldl_add0 (l:List Nat):l.foldl (fun a b=>a+b) 0=l.sum:=by rw [foldl_add];omega
def ni (l:List Nat):List Int:=l.map fun (n:Nat)=>(n:Int)
theorem ni_eq (l:List Nat):Krab.ints l=ni l:=rfl
theorem ni_length (l:List Nat):(ni l).length=l.length:=List.length_map ..
theorem ni_sum (l:List Nat):(ni l).sum=((l.sum:Nat):Int):=by
 induction l with
 | nil=>rfl
 | cons x r ih=>
  show ((x:Int)::ni r).sum=_
  rw [List.sum_cons,List.sum_cons,ih,Int.natCast_add]
theorem getD_range_map (f:Nat->Nat) (n i:Nat) (h:i<n):((List.range n).map f).getD i 0=f i:=by
 simp [List.getD_eq_getElem?_getD,h]
def digits:List Nat:=(List.range Krab.mostNumber).map fun x=>x+1
theorem rows_snoc:∀ n,Krab.rows (n+1)=(Krab.rows n).flatMap fun r=>digits.map fun d=>r++[d]
 | 0=>by decide
 | n+1=>by
  show (digits.flatMap fun x=>(Krab.rows (n+1)).map fun r=>x::r)=(digits.flatMap fun x=>(Krab.rows n).map fun r=>x::r).flatMap _
  rw [List.flatMap_assoc,rows_snoc n]
  refine congrArg (fun f=>List.flatMap f digits) ?_
  funext x
  rw [List.map_flatMap,List.flatMap_map]
  refine congrArg (fun f=>List.flatMap f (Krab.rows n)) ?_
  funext r
  simp [List.map_map,Function.comp_def]
theorem rows_len:∀ {n:Nat} {r:List Nat},r ∈ Krab.rows n->r.length=n
 | 0,r,h=>by simp [Krab.rows] at h;simp [h]
 | n+1,r,h=>by
  simp only [Krab.rows,List.mem_flatMap,List.mem_map] at h
  obtain ⟨x,_,q,hq,rfl⟩:=h
  rw [List.length_cons,rows_len hq]
theorem rows_in:∀ {n:Nat} {r:List Nat},r ∈ Krab.rows n->∀ v ∈ r,1<=v/\v<=8
 | 0,r,h,v,hv=>by simp [Krab.rows] at h;subst h;simp at hv
 | n+1,r,h,v,hv=>by
  simp only [Krab.rows,List.mem_flatMap,List.mem_map] at h
  obtain ⟨x,⟨y,hy,rfl⟩,q,hq,rfl⟩:=h
  rcases List.mem_cons.mp hv with rfl | hv
  ·have:=List.mem_range.mp hy
   simp only [Krab.mostNumber] at this
   omega
  ·exact rows_in hq v hv
theorem rows_count:∀ n,(Krab.rows n).length=8 ^ n
 | 0=>rfl
 | n+1=>by
  rw [rows_snoc,List.length_flatMap]
  have e:(fun r:List Nat=>(digits.map fun d=>r++[d]).length)=fun _=>8:=by
   funext r;rw [List.length_map];rfl
  rw [e,Nat.pow_succ,<-rows_count n]
  induction Krab.rows n with
  | nil=>rfl
  | cons a l ih=>simp only [List.map_cons,List.sum_cons,List.length_cons,ih];omega
theorem rows_ne (n:Nat):Krab.rows n ≠ []:=by
 intro e
 have:=rows_count n
 rw [e] at this
 have h2:0<8 ^ n:=Nat.pow_pos (by decide)
 simp at this
 omega
def dot (w:List Int) (z:List Nat):Int:=(List.zipWith (fun a b=>a * b) w (ni z)).sum
theorem sum_range_zip:∀ (a z:List Nat),((List.range z.length).map fun i=>a.getD i 0 * z.getD i 0).sum=(List.zipWith (fun a b=>a * b) a z).sum
 | a,[]=>by cases a <;> simp
 | [],b::z=>by
  simp only [List.zipWith_nil_left,List.sum_nil]
  have:∀ l:List Nat,(l.map fun i=>([]:List Nat).getD i 0 * (b::z).getD i 0).sum=0:=by
   intro l
   induction l with
   | nil=>rfl
   | cons x r ih=>rw [List.map_cons,List.sum_cons,ih];simp
  exact this _
 | x::a,b::z=>by
  rw [List.length_cons,List.range_succ_eq_map,List.map_cons,List.sum_cons,List.map_map,List.zipWith_cons_cons,List.sum_cons,<-sum_range_zip a z]
  rfl
theorem ksum_eq (a z:List Nat):Krab.sum a z=(List.zipWith (fun a b=>a * b) a z).sum:=by
 unfold Krab.sum
 rw [foldl_add0,sum_range_zip]
theorem dot_ni:∀ (a z:List Nat),dot (ni a) z=(Krab.sum a z:Nat):=by
 intro a z
 rw [ksum_eq]
 unfold dot
 induction a generalizing z with
 | nil=>simp [ni]
 | cons x a ih=>
  cases z with
  | nil=>simp [ni]
  | cons b z=>
   show (List.zipWith (fun a b=>a * b) ((x:Int)::ni a) ((b:Int)::ni z)).sum=_
   rw [List.zipWith_cons_cons,List.sum_cons,List.zipWith_cons_cons,List.sum_cons,ih z]
   push_cast
   rfl
def gaps (k:Nat) (u v:List Nat):List Int:=(List.range k).map fun i=>((u.getD i 0:Nat):Int) - ((v.getD i 0:Nat):Int)
theorem gaps_cons (k:Nat) (x y:Nat) (u v:List Nat):gaps (k+1) (x::u) (y::v)=((x:Int) - (y:Int))::gaps k u v:=by
 unfold gaps
 rw [List.range_succ_eq_map,List.map_cons,List.map_map]
 rfl
theorem dot_gaps:∀ (k:Nat) (u v z:List Nat),u.length=k->v.length=k->dot (gaps k u v) z=(Krab.sum u z:Int) - (Krab.sum v z:Int)
 | 0,u,v,z,hu,hv=>by
  have e1:u=[]:=List.length_eq_zero_iff.mp hu
  have e2:v=[]:=List.length_eq_zero_iff.mp hv
  subst e1;subst e2
  rw [ksum_eq]
  simp [dot,gaps]
 | k+1,[],v,z,hu,hv=>by simp at hu
 | k+1,x::u,[],z,hu,hv=>by simp at hv
 | k+1,x::u,y::v,[],hu,hv=>by simp [dot,ni,ksum_eq]
 | k+1,x::u,y::v,b::z,hu,hv=>by
  have ih:=dot_gaps k u v z (by simpa using hu) (by simpa using hv)
  rw [gaps_cons]
  rw [ksum_eq,ksum_eq] at *
  unfold dot at ih ⊢
  show (List.zipWith (fun a b=>a * b) (((x:Int) - (y:Int))::gaps k u v) ((b:Int)::ni z)).sum=_
  rw [List.zipWith_cons_cons,List.sum_cons,List.zipWith_cons_cons,List.sum_cons,List.zipWith_cons_cons,List.sum_cons,ih]
  push_cast
  rw [Int.sub_mul]
  omega
def holdsI (k:Nat) (a b:Int):Bool:=if k=0 then decide (b<a) else if k=1 then decide (b<=a) else decide (a=b)
theorem holds_krab (k:Nat) (u v z:List Nat) (n:Nat) (hu:u.length=n) (hv:v.length=n):holdsI k (dot (gaps n u v) z) 0=(⟨u,v,k⟩:Krab.Told).holds z:=by
 rw [dot_gaps n u v z hu hv]
 unfold holdsI Krab.Told.holds
 match k with
 | 0=>simp
 | 1=>simp
 | k+2=>
  simp only [show ¬ (k+2=0) by omega,show ¬ (k+2=1) by omega,if_false]
  rw [Bool.eq_iff_iff]
  simp only [decide_eq_true_eq,beq_iff_eq]
  omega
theorem holds_krae (t:Krae.Told) (x:List Nat):holdsI t.kind (Krae.of x t.a:Nat) (Krae.of x t.b:Nat)=t.holds x:=by
 unfold holdsI Krae.Told.holds
 obtain ⟨a,b,k⟩:=t
 match k with
 | 0=>simp
 | 1=>simp
 | k+2=>
  simp only [show ¬ (k+2=0) by omega,show ¬ (k+2=1) by omega,if_false]
  rw [Bool.eq_iff_iff]
  simp only [decide_eq_true_eq,beq_iff_eq]
  omega
def sidePart (x l:List Nat) (i k:Nat):Nat:=((List.range i).map fun j=>if l.getD j 0=k then x.getD j 0 else 0).sum
theorem sidePart_succ (x l:List Nat) (i k:Nat):sidePart x l (i+1) k=sidePart x l i k+(if l.getD i 0=k then x.getD i 0 else 0):=by
 unfold sidePart
 rw [List.range_succ,List.map_append,List.sum_append]
 simp
theorem sideOf_eq (p:Nat) (x l:List Nat):Krag.sideOf p x l=(List.range p).map (sidePart x l x.length):=by
 unfold Krag.sideOf
 refine congrArg (fun f=>List.map f (List.range p)) ?_
 funext k
 rw [foldl_add0]
 rfl
theorem sideOf_length (p:Nat) (x l:List Nat):(Krag.sideOf p x l).length=p:=by rw [sideOf_eq];simp
theorem side_set (x l:List Nat) (p i:Nat) (hp:l.getD i 0<p) :
  ((List.range p).map (sidePart x l i)).set (l.getD i 0) (sidePart x l i (l.getD i 0)+x.getD i 0)=(List.range p).map (sidePart x l (i+1)):=by
 apply List.ext_getElem
 ·simp
 ·intro j h1 h2
  rw [List.getElem_set]
  simp only [List.getElem_map,List.getElem_range,sidePart_succ]
  split
  ·rename_i e;rw [e]
  ·rfl
theorem side_zero (x l:List Nat) (p:Nat):(List.range p).map (sidePart x l 0)=List.replicate p 0:=by
 apply List.ext_getElem
 ·simp
 ·intro j h1 h2
  simp [sidePart]
theorem rowsOf_one (t:Nat):Krae.rowsOf 1 t=[[t]]:=by
 show ((List.range (t+1)).flatMap fun x=>(Krae.rowsOf 0 (t - x)).map fun r=>x::r)=[[t]]
 have h:∀ n,n<=t->((List.range n).flatMap fun x=>(Krae.rowsOf 0 (t - x)).map fun r=>x::r)=[]:=by
  intro n
  induction n with
  | zero=>intro _;rfl
  | succ n ih=>
   intro hn
   rw [List.range_succ,List.flatMap_append,ih (by omega)]
   obtain ⟨m,e⟩:∃ m,t - n=m+1:=⟨t - n - 1,by omega⟩
   simp [e,Krae.rowsOf]
 rw [List.range_succ,List.flatMap_append,h t (Nat.le_refl _)]
 simp [Krae.rowsOf]
theorem rowsOf_succ (n t:Nat):Krae.rowsOf (n+1) t=(List.range (t+1)).flatMap fun x=>(Krae.rowsOf n (t - x)).map fun r=>x::r:=rfl
theorem rowsOf_len:∀ {n t:Nat} {r:List Nat},r ∈ Krae.rowsOf n t->r.length=n
 | 0,0,r,h=>by simp [Krae.rowsOf] at h;simp [h]
 | 0,t+1,r,h=>by simp [Krae.rowsOf] at h
 | n+1,t,r,h=>by
  rw [rowsOf_succ] at h
  simp only [List.mem_flatMap,List.mem_map] at h
  obtain ⟨x,_,q,hq,rfl⟩:=h
  rw [List.length_cons,rowsOf_len hq]
theorem rowsOf_sum:∀ {n t:Nat} {r:List Nat},r ∈ Krae.rowsOf n t->r.sum=t
 | 0,0,r,h=>by simp [Krae.rowsOf] at h;simp [h]
 | 0,t+1,r,h=>by simp [Krae.rowsOf] at h
 | n+1,t,r,h=>by
  rw [rowsOf_succ] at h
  simp only [List.mem_flatMap,List.mem_map] at h
  obtain ⟨x,hx,q,hq,rfl⟩:=h
  have:=List.mem_range.mp hx
  rw [List.sum_cons,rowsOf_sum hq]
  omega
theorem rowsOf_count:∀ (n t:Nat),(Krae.rowsOf n t).length<=(t+1) ^ n
 | 0,0=>by simp [Krae.rowsOf]
 | 0,t+1=>by simp [Krae.rowsOf]
 | n+1,t=>by
  rw [rowsOf_succ,List.length_flatMap]
  have h:∀ m,m<=t+1->((List.range m).map fun x=>((Krae.rowsOf n (t - x)).map fun r=>x::r).length).sum<=m * (t+1) ^ n:=by
   intro m
   induction m with
   | zero=>intro _;simp
   | succ m ih=>
    intro hm
    rw [List.range_succ,List.map_append,List.sum_append]
    have h1:=ih (by omega)
    have h2:=rowsOf_count n (t - m)
    have h3:(t - m+1) ^ n<=(t+1) ^ n:=Nat.pow_le_pow_left (by omega) n
    simp only [List.map_cons,List.map_nil,List.sum_cons,List.sum_nil,List.length_map,Nat.add_zero] at *
    rw [Nat.succ_mul]
    omega
  have:=h (t+1) (Nat.le_refl _)
  rw [Nat.pow_succ,Nat.mul_comm]
  exact this
theorem fit_head (n:Nat) (l:List Krae.Told):(Krae.fitBy n l).head?=((Krae.rows n).find? fun x=>l.all fun t=>t.holds x):=by
 unfold Krae.fitBy
 rw [List.head?_filter]
theorem find_flat {α β:Type} (p:β->Bool) (f:α->List β):∀ l:List α,(l.flatMap f).find? p=l.findSome? fun a=>(f a).find? p
 | []=>rfl
 | a::l=>by
  rw [List.flatMap_cons,List.find?_append,List.findSome?_cons,find_flat p f l]
  cases (f a).find? p <;> rfl
def sharesOf (n:Nat) (l:List Krae.Told):Option (List Nat):=((List.range 10).map fun t=>t+1).findSome? fun t=>(Krae.rowsOf n t).find? fun x=>l.all fun y=>y.holds x
theorem shares_eq (b:Krag.Book):b.shares=sharesOf b.n b.worlds.told:=by
 unfold Krag.Book.shares Krae.House.fit
 rw [fit_head]
 unfold Krae.rows sharesOf
 rw [find_flat]
 rfl
theorem shares_facts {b:Krag.Book} {x:List Nat} (h:b.shares=some x):x.length=b.n/\1<=x.sum/\x.sum<=10/\(b.worlds.told.all fun t=>t.holds x)=true:=by
 rw [shares_eq] at h
 unfold sharesOf at h
 obtain ⟨t,ht,hf⟩:=List.exists_of_findSome?_eq_some h
 have hm:=List.mem_of_find?_eq_some hf
 obtain ⟨u,hu,rfl⟩:=List.mem_map.mp ht
 have:=List.mem_range.mp hu
 refine ⟨rowsOf_len hm,?_,?_,?_⟩
 ·rw [rowsOf_sum hm];omega
 ·rw [rowsOf_sum hm];omega
 ·have q:=List.find?_some hf
  exact q
theorem of_eq (x:List Nat) (s:Nat):Krae.of x s=(((List.range x.length).filter fun i=>Krae.has s i).map fun i=>x.getD i 0).sum:=by
 unfold Krae.of
 rw [foldl_add0]
 have:∀ l:List Nat,(l.map fun i=>if Krae.has s i=true then x.getD i 0 else 0).sum=((l.filter fun i=>Krae.has s i).map fun i=>x.getD i 0).sum:=by
  intro l
  induction l with
  | nil=>rfl
  | cons a r ih=>
   rw [List.map_cons,List.sum_cons,ih,List.filter_cons]
   split
   ·simp
   ·simp
 exact this _
theorem le_sum_of_mem:∀ {l:List Nat} {a:Nat},a ∈ l->a<=l.sum
 | [],_,h=>by simp at h
 | b::r,a,h=>by
  rw [List.sum_cons]
  rcases List.mem_cons.mp h with rfl | h
  ·omega
  ·have:=le_sum_of_mem h;omega
theorem has_eq (s i:Nat):Krae.has s i=s.testBit i:=by
 unfold Krae.has
 rw [Nat.testBit_eq_decide_div_mod_eq]
 rfl
def bits (p:Nat->Bool) (n:Nat):Nat:=((List.range n).filter p).foldl (fun s i=>s+2 ^ i) 0
theorem foldl_pow (l:List Nat) (a:Nat):l.foldl (fun s i=>s+2 ^ i) a=a+(l.map fun i=>2 ^ i).sum:=by
 induction l generalizing a with
 | nil=>simp
 | cons x r ih=>simp only [List.foldl_cons,List.map_cons,List.sum_cons,ih];omega
theorem bits_sum (p:Nat->Bool) (n:Nat):bits p n=(((List.range n).filter p).map fun i=>2 ^ i).sum:=by
 unfold bits
 rw [foldl_pow]
 omega
theorem bits_succ (p:Nat->Bool) (n:Nat):bits p (n+1)=bits p n+(if p n then 2 ^ n else 0):=by
 unfold bits
 rw [List.range_succ,List.filter_append,List.foldl_append]
 by_cases h:p n=true
 ·simp [h]
 ·simp [h]
theorem bits_lt (p:Nat->Bool):∀ n,bits p n<2 ^ n
 | 0=>by simp [bits]
 | n+1=>by
  rw [bits_succ,Nat.pow_succ]
  have:=bits_lt p n
  split <;> omega
theorem bits_test (p:Nat->Bool):∀ n j,(bits p n).testBit j=(decide (j<n) && p j)
 | 0,j=>by simp [bits]
 | n+1,j=>by
  rw [bits_succ]
  have h1:=bits_lt p n
  have ih:=bits_test p n
  by_cases hn:p n=true
  ·rw [if_pos hn,Nat.add_comm]
   by_cases hj:j=n
   ·subst hj
    rw [Nat.testBit_two_pow_add_eq,Nat.testBit_lt_two_pow h1]
    simp [hn]
   ·by_cases hlt:j<n
    ·rw [Nat.testBit_two_pow_add_gt hlt,ih j]
     have e1:decide (j<n)=true:=by simp [hlt]
     have e2:decide (j<n+1)=true:=by simp;omega
     rw [e1,e2]
    ·have:2 ^ n+bits p n<2 ^ j:=by
      have h2:2 ^ (n+1)<=2 ^ j:=Nat.pow_le_pow_right (by decide) (by omega)
      rw [Nat.pow_succ] at h2
      omega
     rw [Nat.testBit_lt_two_pow this]
     have e2:decide (j<n+1)=false:=by simp;omega
     rw [e2];rfl
  ·rw [if_neg hn,Nat.add_zero,ih j]
   by_cases hj:j=n
   ·subst hj
    have:p j=false:=by simpa using hn
    simp [this]
   ·have:decide (j<n)=decide (j<n+1):=by
     rw [Bool.eq_iff_iff];simp;omega
    rw [this]
theorem and_self_iff (y s:Nat):(y &&& s==s)=true ↔ ∀ j,s.testBit j=true->y.testBit j=true:=by
 rw [beq_iff_eq]
 constructor
 ·intro h j hj
  have:=congrArg (fun q=>q.testBit j) h
  simp only [Nat.testBit_and,hj,Bool.and_true] at this
  exact this
 ·intro h
  apply Nat.eq_of_testBit_eq
  intro j
  rw [Nat.testBit_and]
  cases hs:s.testBit j with
  | false=>simp
  | true=>simp [h j hs]
theorem and_zero_iff (w s:Nat):(w &&& s==0)=true ↔ ∀ j,s.testBit j=true->w.testBit j=false:=by
 rw [beq_iff_eq]
 constructor
 ·intro h j hj
  have:=congrArg (fun q=>q.testBit j) h
  simp only [Nat.testBit_and,hj,Bool.and_true,Nat.zero_testBit] at this
  exact this
 ·intro h
  apply Nat.eq_of_testBit_eq
  intro j
  rw [Nat.testBit_and,Nat.zero_testBit]
  cases hs:s.testBit j with
  | false=>simp
  | true=>simp [h j hs]
theorem test_lt {s n j:Nat} (hs:s<2 ^ n) (h:s.testBit j=true):j<n:=by
 by_cases hj:j<n
 ·exact hj
 ·have:s<2 ^ j:=Nat.lt_of_lt_of_le hs (Nat.pow_le_pow_right (by decide) (by omega))
  rw [Nat.testBit_lt_two_pow this] at h
  cases h
theorem agree_wrong (p:Nat->Bool) {n s:Nat} (hs:s<2 ^ n):(bits p n &&& s==s)=(bits (fun i=>!p i) n &&& s==0):=by
 rw [Bool.eq_iff_iff,and_self_iff,and_zero_iff]
 constructor
 ·intro h j hj
  have:=h j hj
  rw [bits_test] at this ⊢
  simp at this ⊢
  intro _
  exact this.2
 ·intro h j hj
  have h1:=h j hj
  have h2:=test_lt hs hj
  rw [bits_test] at h1 ⊢
  simp [h2] at h1 ⊢
  exact h1
theorem sub_fact:∀ s<32,∀ t<32,t ≠ s->t &&& s=t->∃ i,i<5/\s.testBit i=true/\t &&& (s - 2 ^ i)=t:=by decide +kernel
theorem rem_fact:∀ s<32,∀ i<5,s.testBit i=true->(s - 2 ^ i) &&& s=s - 2 ^ i/\s - 2 ^ i ≠ s/\s - 2 ^ i<s:=by decide +kernel
theorem go_mono {w s t:Nat} (h:(w &&& s==0)=true) (hs:t &&& s=t):(w &&& t==0)=true:=by
 rw [beq_iff_eq] at h ⊢
 rw [<-hs,Nat.and_comm t s,<-Nat.and_assoc,h]
 simp
def clashBy (go:Nat->Bool) (s:Nat):Prop:=go s=false/\∀ i,s.testBit i=true->go (s - 2 ^ i)=true
theorem clash_iff {go:Nat->Bool} (mono:∀ s t,go s=true->t &&& s=t->go t=true) {n:Nat} (hn:n<=5) {s:Nat} (hs:s<2 ^ n) :
  (go s=false/\((List.range (2 ^ n)).filter fun t=>!go t).all (fun y=>y==s || !(y &&& s==y))=true) ↔ clashBy go s:=by
 have h32:2 ^ n<=32:=Nat.pow_le_pow_right (n:=2) (by decide) hn
 unfold clashBy
 refine and_congr_right fun hg=>?_
 rw [List.all_eq_true]
 constructor
 ·intro h i hi
  have hi5:i<5:=Nat.lt_of_lt_of_le (test_lt hs hi) hn
  obtain ⟨h1,h2,h3⟩:=rem_fact s (by omega) i hi5 hi
  cases hgo:go (s - 2 ^ i) with
  | true=>rfl
  | false=>
   have:=h (s - 2 ^ i) (List.mem_filter.mpr ⟨List.mem_range.mpr (by omega),by simp [hgo]⟩)
   simp [h1,h2] at this
 ·intro h t ht
  obtain ⟨ht1,ht2⟩:=List.mem_filter.mp ht
  have ht1:=List.mem_range.mp ht1
  by_cases e:t=s
  ·simp [e]
  ·by_cases q:t &&& s=t
   ·obtain ⟨i,hi,hb,hz⟩:=sub_fact s (by omega) t (by omega) e q
    have:=mono _ _ (h i hb) hz
    simp [this] at ht2
   ·simp [q]
theorem clash_exists {go:Nat->Bool}:∀ (s:Nat),s<32->go s=false->∃ t,t<=s/\clashBy go t:=by
 intro s
 induction s using Nat.strongRecOn with
 | ind s ih=>
  intro hs hg
  by_cases h:∀ i,s.testBit i=true->go (s - 2 ^ i)=true
  ·exact ⟨s,Nat.le_refl _,hg,h⟩
  ·obtain ⟨i,hi⟩:∃ i,¬ (s.testBit i=true->go (s - 2 ^ i)=true):=Classical.not_forall.mp h
   obtain ⟨hb,hne⟩:=Classical.not_imp.mp hi
   have hi5:i<5:=test_lt (n:=5) hs hb
   obtain ⟨_,_,h3⟩:=rem_fact s hs i hi5 hb
   obtain ⟨t,ht,hc⟩:=ih (s - 2 ^ i) h3 (by omega) (by simpa using hne)
   exact ⟨t,by omega,hc⟩
def wrongB (l:List Krab.Told) (z:List Nat):Nat:=bits (fun i=>!((l.getD i ⟨[],[],2⟩).holds z)) l.length
def goB (p:Nat) (l:List Krab.Told) (s:Nat):Bool:=(Krab.rows p).any fun z=>wrongB l z &&& s==0
theorem goB_mono {p:Nat} {l:List Krab.Told} (s t:Nat) (h:goB p l s=true) (hs:t &&& s=t):goB p l t=true:=by
 unfold goB at *
 rw [List.any_eq_true] at *
 obtain ⟨z,hz,hw⟩:=h
 exact ⟨z,hz,go_mono hw hs⟩
theorem all_getD (l:List Krab.Told) (z:List Nat):(l.all fun t=>t.holds z)=true ↔ ∀ i,i<l.length->(l.getD i ⟨[],[],2⟩).holds z=true:=by
 rw [List.all_eq_true]
 constructor
 ·intro h i hi
  rw [List.getD_eq_getElem?_getD,List.getElem?_eq_getElem hi]
  exact h _ (List.getElem_mem hi)
 ·intro h t ht
  obtain ⟨i,hi,e⟩:=List.getElem_of_mem ht
  have:=h i hi
  rw [List.getD_eq_getElem?_getD,List.getElem?_eq_getElem hi] at this
  rw [<-e];exact this
theorem wrong_zero (l:List Krab.Told) (z:List Nat):wrongB l z=0 ↔ (l.all fun t=>t.holds z)=true:=by
 rw [all_getD]
 constructor
 ·intro h i hi
  have:=bits_test (fun i=>!((l.getD i ⟨[],[],2⟩).holds z)) l.length i
  rw [show bits _ _=0 from h] at this
  simp only [Nat.zero_testBit,hi,decide_true,Bool.true_and] at this
  simpa using this.symm
 ·intro h
  apply Nat.eq_of_testBit_eq
  intro j
  unfold wrongB
  rw [bits_test,Nat.zero_testBit]
  by_cases hj:j<l.length
  ·simp only [h j hj];simp
  ·simp [hj]
theorem wrong_lt (l:List Krab.Told) (z:List Nat):wrongB l z<2 ^ l.length:=bits_lt _ _
theorem any_eraseDups {α:Type} [BEq α] [LawfulBEq α] (l:List α) (p:α->Bool):l.eraseDups.any p=l.any p:=by
 rw [Bool.eq_iff_iff,List.any_eq_true,List.any_eq_true]
 constructor
 ·rintro ⟨x,hx,hp⟩;exact ⟨x,by simpa using hx,hp⟩
 ·rintro ⟨x,hx,hp⟩;exact ⟨x,by simpa using hx,hp⟩
theorem clashes_eq (b:Krag.Book) (x:List Nat) (hl:(b.told x).length<=5) (f:Nat->Bool) (hf:∀ s,s<2 ^ (b.told x).length->(f s=true ↔ clashBy (goB b.prizes (b.told x)) s)) :
  b.clashes x=(List.range (2 ^ (b.told x).length)).filter f:=by
 unfold Krag.Book.clashes
 have hgo:∀ s,s<2 ^ (b.told x).length->(((Krab.rows b.prizes).map fun z=>((List.range (b.told x).length).filter fun i=>((b.told x).getD i ⟨[],[],2⟩).holds z).foldl (fun s i=>s+2 ^ i) 0).eraseDups.any fun y=>y &&& s==s)=goB b.prizes (b.told x) s:=by
  intro s hs
  rw [any_eraseDups,List.any_map]
  unfold goB
  congr 1
  funext z
  exact agree_wrong (fun i=>((b.told x).getD i ⟨[],[],2⟩).holds z) hs
 have hbad:((List.range (2 ^ (b.told x).length)).filter fun s=>!(((Krab.rows b.prizes).map fun z=>((List.range (b.told x).length).filter fun i=>((b.told x).getD i ⟨[],[],2⟩).holds z).foldl (fun s i=>s+2 ^ i) 0).eraseDups.any fun y=>y &&& s==s))=(List.range (2 ^ (b.told x).length)).filter fun s=>!goB b.prizes (b.told x) s:=by
  apply List.filter_congr
  intro s hs
  rw [hgo s (List.mem_range.mp hs)]
 simp only [hbad]
 rw [List.filter_filter]
 apply List.filter_congr
 intro s hs
 have hs:=List.mem_range.mp hs
 rw [Bool.eq_iff_iff,hf s hs,<-clash_iff goB_mono hl hs,Bool.and_eq_true,and_comm]
 simp
theorem book_fit {b:Krag.Book} {x:List Nat} (h:b.shares=some x):b.fit=(Krab.rows b.prizes).filter fun z=>(b.told x).all fun y=>y.holds z:=by
 unfold Krag.Book.fit
 rw [h]
theorem clashes_none {b:Krag.Book} {x:List Nat} (h:b.shares=some x) (hl:(b.told x).length<=5):b.fit.isEmpty=!(b.clashes x).isEmpty:=by
 classical
 have hc:=clashes_eq b x hl (fun s=>decide (clashBy (goB b.prizes (b.told x)) s)) (fun s _=>by simp)
 rw [book_fit h,hc]
 rw [Bool.eq_iff_iff]
 simp only [List.isEmpty_iff,Bool.not_eq_true',List.isEmpty_eq_false_iff]
 constructor
 ·intro he hn
  have hg:goB b.prizes (b.told x) (2 ^ (b.told x).length - 1)=false:=by
   cases hg:goB b.prizes (b.told x) (2 ^ (b.told x).length - 1) with
   | false=>rfl
   | true=>
    unfold goB at hg
    obtain ⟨z,hz,hw⟩:=List.any_eq_true.mp hg
    have h0:wrongB (b.told x) z=0:=by
     rw [beq_iff_eq,Nat.and_two_pow_sub_one_eq_mod,Nat.mod_eq_of_lt (wrong_lt _ _)] at hw
     exact hw
    have:z ∈ (Krab.rows b.prizes).filter fun z=>(b.told x).all fun y=>y.holds z:=List.mem_filter.mpr ⟨hz,(wrong_zero _ _).mp h0⟩
    rw [he] at this
    cases this
  have h32:2 ^ (b.told x).length<=32:=Nat.pow_le_pow_right (n:=2) (by decide) hl
  have hpos:0<2 ^ (b.told x).length:=Nat.pow_pos (by decide)
  obtain ⟨t,ht,hcl⟩:=clash_exists (2 ^ (b.told x).length - 1) (by omega) hg
  have:t ∈ (List.range (2 ^ (b.told x).length)).filter fun s=>decide (clashBy (goB b.prizes (b.told x)) s):=List.mem_filter.mpr ⟨List.mem_range.mpr (by omega),by simpa using hcl⟩
  rw [hn] at this
  cases this
 ·intro hn
  cases he:(Krab.rows b.prizes).filter fun z=>(b.told x).all fun y=>y.holds z with
  | nil=>rfl
  | cons z r=>
   exfalso
   have hz:z ∈ (Krab.rows b.prizes).filter fun z=>(b.told x).all fun y=>y.holds z:=by rw [he];exact List.mem_cons_self
   obtain ⟨hz1,hz2⟩:=List.mem_filter.mp hz
   have h0:=(wrong_zero _ _).mpr hz2
   apply hn
   rw [List.filter_eq_nil_iff]
   intro s _ hcl
   have hcl:clashBy (goB b.prizes (b.told x)) s:=by simpa using hcl
   have:goB b.prizes (b.told x) s=true:=List.any_eq_true.mpr ⟨z,hz1,by rw [h0];simp⟩
   rw [hcl.1] at this
   cases this
theorem filter_len_le {α:Type} (l:List α) (p q:α->Bool) (h:∀ a ∈ l,p a=true->q a=true):(l.filter p).length<=(l.filter q).length:=by
 induction l with
 | nil=>simp
 | cons a r ih=>
  have ih:=ih fun b hb=>h b (List.mem_cons_of_mem _ hb)
  have ha:=h a List.mem_cons_self
  rw [List.filter_cons,List.filter_cons]
  cases hp:p a with
  | true=>rw [ha hp];simp only [if_true,List.length_cons];omega
  | false=>
   cases hq:q a with
   | true=>simp only [if_true,List.length_cons,Bool.false_eq_true,if_false];omega
   | false=>simpa using ih
theorem filter_len_eq {α:Type} (l:List α) (p q:α->Bool) (h:∀ a ∈ l,p a=true->q a=true):(l.filter q).length=(l.filter p).length ↔ ∀ a ∈ l,q a=true->p a=true:=by
 induction l with
 | nil=>simp
 | cons a r ih=>
  have h':∀ b ∈ r,p b=true->q b=true:=fun b hb=>h b (List.mem_cons_of_mem _ hb)
  have ih:=ih h'
  have le:=filter_len_le r p q h'
  have ha:=h a List.mem_cons_self
  rw [List.filter_cons,List.filter_cons]
  cases hp:p a with
  | true=>
   rw [ha hp]
   simp only [if_true,List.length_cons,Nat.add_right_cancel_iff]
   rw [ih]
   constructor
   ·intro k b hb
    rcases List.mem_cons.mp hb with rfl | hb
    ·intro _;exact hp
    ·exact k b hb
   ·intro k b hb;exact k b (List.mem_cons_of_mem _ hb)
  | false=>
   cases hq:q a with
   | true=>
    simp only [if_true,List.length_cons,Bool.false_eq_true,if_false]
    constructor
    ·intro k;omega
    ·intro k
     have:=k a List.mem_cons_self hq
     rw [hp] at this;cases this
   | false=>
    simp only [Bool.false_eq_true,if_false]
    rw [ih]
    constructor
    ·intro k b hb
     rcases List.mem_cons.mp hb with rfl | hb
     ·intro z;rw [hq] at z;cases z
     ·exact k b hb
    ·intro k b hb;exact k b (List.mem_cons_of_mem _ hb)
theorem all_erase {α:Type} (l:List α) (p:α->Bool) (i:Nat) (h:i<l.length):l.all p=(p l[i] && (l.eraseIdx i).all p):=by
 rw [Bool.eq_iff_iff,Bool.and_eq_true,List.all_eq_true,List.all_eq_true]
 constructor
 ·intro k
  exact ⟨k _ (List.getElem_mem h),fun x hx=>k x (List.mem_of_mem_eraseIdx hx)⟩
 ·rintro ⟨k1,k2⟩ x hx
  obtain ⟨j,hj,rfl⟩:=List.getElem_of_mem hx
  by_cases e:j=i
  ·subst e;exact k1
  ·apply k2
   rw [List.mem_eraseIdx_iff_getElem]
   exact ⟨j,hj,e,rfl⟩
theorem wrong_pow (l:List Krab.Told) (z:List Nat) (i:Nat) (hi:i<l.length):wrongB l z=2 ^ i ↔ (l[i].holds z=false/\((l.eraseIdx i).all fun t=>t.holds z)=true):=by
 have tb:∀ j,(wrongB l z).testBit j=(decide (j<l.length) && !((l.getD j ⟨[],[],2⟩).holds z)):=fun j=>bits_test _ _ j
 have gd:∀ j (hj:j<l.length),l.getD j ⟨[],[],2⟩=l[j]:=fun j hj=>by rw [List.getD_eq_getElem?_getD,List.getElem?_eq_getElem hj];rfl
 constructor
 ·intro h
  constructor
  ·have:=tb i
   rw [h,Nat.testBit_two_pow_self,gd i hi] at this
   simpa [hi] using this.symm
  ·rw [List.all_eq_true]
   intro t ht
   rw [List.mem_eraseIdx_iff_getElem] at ht
   obtain ⟨j,hj,hne,rfl⟩:=ht
   have:=tb j
   rw [h,Nat.testBit_two_pow_of_ne (Ne.symm hne),gd j hj] at this
   simpa [hj] using this.symm
 ·rintro ⟨h1,h2⟩
  apply Nat.eq_of_testBit_eq
  intro j
  rw [tb j]
  by_cases e:i=j
  ·subst e
   rw [Nat.testBit_two_pow_self,gd i hi,h1]
   simp [hi]
  ·rw [Nat.testBit_two_pow_of_ne e]
   by_cases hj:j<l.length
   ·rw [gd j hj]
    have:=List.all_eq_true.mp h2 l[j] (by rw [List.mem_eraseIdx_iff_getElem];exact ⟨j,hj,Ne.symm e,rfl⟩)
    simp [this]
   ·simp [hj]
theorem erase_map {α β:Type} (f:α->β):∀ (l:List α) (i:Nat),(l.map f).eraseIdx i=(l.eraseIdx i).map f
 | [],i=>by simp
 | a::l,0=>by simp
 | a::l,i+1=>by simp [erase_map f l i]
theorem told_erase (b:Krag.Book) (x:List Nat) (i:Nat):Krag.Book.told { b with rather:=b.rather.eraseIdx i } x=(b.told x).eraseIdx i:=by
 unfold Krag.Book.told
 show List.map _ (b.rather.eraseIdx i)=(List.map _ b.rather).eraseIdx i
 rw [erase_map]
 rfl
theorem told_length (b:Krag.Book) (x:List Nat):(b.told x).length=b.rather.length:=by unfold Krag.Book.told;simp
theorem spare_eq {b:Krag.Book} {x:List Nat} (h:b.shares=some x) (i:Nat) (hi:i<b.rather.length) :
  ((Krag.Book.fit { b with rather:=b.rather.eraseIdx i }).length==b.fit.length)=!((Krab.rows b.prizes).any fun z=>wrongB (b.told x) z==2 ^ i):=by
 have h2:Krag.Book.shares { b with rather:=b.rather.eraseIdx i }=some x:=h
 have hi2:i<(b.told x).length:=by rw [told_length];exact hi
 rw [book_fit h,book_fit h2,told_erase]
 show (((Krab.rows b.prizes).filter _).length==_)=_
 rw [Bool.eq_iff_iff,beq_iff_eq,filter_len_eq]
 ·rw [Bool.not_eq_true',List.any_eq_false]
  constructor
  ·intro k z hz hw
   rw [beq_iff_eq,wrong_pow _ _ _ hi2] at hw
   have:=k z hz hw.2
   rw [all_erase _ _ i hi2,hw.1] at this
   simp at this
  ·intro k z hz hq
   rw [all_erase _ _ i hi2,hq,Bool.and_true]
   cases hh:(b.told x)[i].holds z with
   | true=>rfl
   | false=>
    exact absurd (beq_iff_eq.mpr ((wrong_pow _ _ _ hi2).mpr ⟨hh,hq⟩)) (k z hz)
 ·intro z hz hp
  rw [all_erase _ _ i hi2,Bool.and_eq_true] at hp
  exact hp.2
theorem foldl_max_ge:∀ (l:List Nat) (a:Nat),a<=l.foldl max a/\(∀ x ∈ l,x<=l.foldl max a)/\(l.foldl max a=a\/l.foldl max a ∈ l)
 | [],a=>⟨Nat.le_refl _,fun x h=>(by cases h),.inl rfl⟩
 | b::r,a=>by
  obtain ⟨h1,h2,h3⟩:=foldl_max_ge r (max a b)
  rw [List.foldl_cons]
  refine ⟨by omega,fun x hx=>?_,?_⟩
  ·rcases List.mem_cons.mp hx with rfl | hx
   ·omega
   ·exact h2 x hx
  ·rcases h3 with h3 | h3
   ·rw [h3]
    by_cases q:a<=b
    ·right;rw [show max a b=b by omega];exact List.mem_cons_self
    ·left;omega
   ·right;exact List.mem_cons_of_mem _ h3
theorem foldl_min_le:∀ (l:List Nat) (a:Nat),l.foldl min a<=a/\(∀ x ∈ l,l.foldl min a<=x)/\(l.foldl min a=a\/l.foldl min a ∈ l)
 | [],a=>⟨Nat.le_refl _,fun x h=>(by cases h),.inl rfl⟩
 | b::r,a=>by
  obtain ⟨h1,h2,h3⟩:=foldl_min_le r (min a b)
  rw [List.foldl_cons]
  refine ⟨by omega,fun x hx=>?_,?_⟩
  ·rcases List.mem_cons.mp hx with rfl | hx
   ·omega
   ·exact h2 x hx
  ·rcases h3 with h3 | h3
   ·rw [h3]
    by_cases q:b<=a
    ·right;rw [show min a b=b by omega];exact List.mem_cons_self
    ·left;omega
   ·right;exact List.mem_cons_of_mem _ h3
theorem mem_ni {l:List Nat} {m:Int} (h:m ∈ ni l):∃ k,k ∈ l/\m=(k:Int):=by
 obtain ⟨k,hk,e⟩:=List.mem_map.mp h
 exact ⟨k,hk,e.symm⟩
theorem mem_ni_of {l:List Nat} {k:Nat} (h:k ∈ l):(k:Int) ∈ ni l:=List.mem_map.mpr ⟨k,h,rfl⟩
theorem max_ni {l:List Nat} {m:Int} (h1:m ∈ ni l) (h2:∀ y ∈ ni l,y<=m):m=((l.foldl max 0:Nat):Int):=by
 obtain ⟨k,hk,rfl⟩:=mem_ni h1
 obtain ⟨_,q2,q3⟩:=foldl_max_ge l 0
 have a:=q2 k hk
 rcases q3 with q3 | q3
 ·omega
 ·have:=h2 _ (mem_ni_of q3);omega
theorem min_ni {l:List Nat} {m:Int} (h1:m ∈ ni l) (h2:∀ y ∈ ni l,m<=y):m=((l.foldl min (l.headD 0):Nat):Int):=by
 obtain ⟨k,hk,rfl⟩:=mem_ni h1
 obtain ⟨q1,q2,q3⟩:=foldl_min_le l (l.headD 0)
 have a:=q2 k hk
 have hd:l.headD 0 ∈ l:=by cases l with
  | nil=>cases hk
  | cons x r=>exact List.mem_cons_self
 rcases q3 with q3 | q3
 ·have:=h2 _ (mem_ni_of hd);omega
 ·have:=h2 _ (mem_ni_of q3);omega
def leastF (z:Option (List Nat)) (x:List Nat):Option (List Nat):=match z with
 | none=>some x
 | some y=>if Krab.total x<Krab.total y then some x else some y
theorem least_eq (l:List (List Nat)):Krab.least l=l.foldl leastF none:=rfl
theorem total_eq (x:List Nat):Krab.total x=x.sum:=foldl_add0 x
theorem ktotal_eq (x:List Nat):Krae.total x=x.sum:=foldl_add0 x
theorem least_go (y:List Nat):∀ (l:List (List Nat)),(∀ x ∈ l,Krab.total y<=Krab.total x)->l.foldl leastF (some y)=some y
 | [],_=>rfl
 | x::l,h=>by
  rw [List.foldl_cons]
  show l.foldl leastF (if Krab.total x<Krab.total y then some x else some y)=_
  rw [if_neg (by have:=h x List.mem_cons_self;omega)]
  exact least_go y l fun a ha=>h a (List.mem_cons_of_mem _ ha)
theorem least_first (z:List Nat):∀ (l:List (List Nat)) (j:Nat) (a:Option (List Nat)),l[j]?=some z->(∀ y,a=some y->Krab.total z<Krab.total y)->(∀ x ∈ l,Krab.total z<=Krab.total x) ->
  (∀ i x,i<j->l[i]?=some x->Krab.total z<Krab.total x)->l.foldl leastF a=some z
 | [],j,a,hj,_,_,_=>by simp at hj
 | x::l,0,a,hj,ha,hm,hl=>by
  have e:x=z:=by simpa using hj
  subst e
  rw [List.foldl_cons]
  have:leastF a x=some x:=by
   cases a with
   | none=>rfl
   | some y=>
    show (if _ then _ else _)=_
    rw [if_pos (ha y rfl)]
  rw [this]
  exact least_go x l fun b hb=>hm b (List.mem_cons_of_mem _ hb)
 | x::l,j+1,a,hj,ha,hm,hl=>by
  rw [List.foldl_cons]
  refine least_first z l j (leastF a x) (by simpa using hj) (fun y hy=>?_) (fun b hb=>hm b (List.mem_cons_of_mem _ hb)) (fun i b hi hb=>hl (i+1) b (by omega) (by simpa using hb))
  have hx:=hl 0 x (by omega) (by simp)
  cases a with
  | none=>
   have:x=y:=by simpa [leastF] using hy
   subst this;exact hx
  | some w=>
   have hw:=ha w rfl
   unfold leastF at hy
   simp only at hy
   split at hy
   ·have:x=y:=by simpa using hy
    subst this;exact hx
   ·have:w=y:=by simpa using hy
    subst this;exact hw
theorem least_of {l:List (List Nat)} {z:List Nat} {j:Nat} (hj:l[j]?=some z) (hm:∀ x ∈ l,z.sum<=x.sum) (hl:∀ i x,i<j->l[i]?=some x->z.sum<x.sum):Krab.least l=some z:=by
 rw [least_eq]
 refine least_first z l j none hj (fun y h=>by cases h) (fun x hx=>?_) (fun i x hi hx=>?_)
 ·rw [total_eq,total_eq];exact hm x hx
 ·rw [total_eq,total_eq];exact hl i x hi hx
def above (gs:List Int):Nat:=if gs.all (fun g=>decide (0<g)) then 2 else if gs.all (fun g=>decide (0<=g)) then 1 else 0
theorem above_min {gs:List Int} {m:Int} (h1:m ∈ gs) (h2:∀ y ∈ gs,m<=y):above gs=if 0<m then 2 else if m=0 then 1 else 0:=by
 unfold above
 by_cases h:0<m
 ·rw [if_pos h,if_pos]
  rw [List.all_eq_true];intro g hg;have:=h2 g hg;simp;omega
 ·rw [if_neg h,if_neg]
  ·by_cases h0:m=0
   ·rw [if_pos h0,if_pos]
    rw [List.all_eq_true];intro g hg;have:=h2 g hg;simp;omega
   ·rw [if_neg h0,if_neg]
    intro k
    have:=List.all_eq_true.mp k m h1
    simp at this;omega
  ·intro k
   have:=List.all_eq_true.mp k m h1
   simp at this;omega
theorem byAll_eq (f:List (List Nat)) (u v:List Nat) (k:Nat) (hu:u.length=k) (hv:v.length=k):Krag.byAll f u v=above (f.map fun z=>dot (gaps k u v) z):=by
 unfold Krag.byAll above
 have e1:(f.all fun z=>decide (Krab.sum v z<Krab.sum u z))=((f.map fun z=>dot (gaps k u v) z).all fun g=>decide (0<g)):=by
  rw [List.all_map]
  congr 1
  funext z
  simp only [Function.comp_apply,dot_gaps k u v z hu hv]
  rw [Bool.eq_iff_iff];simp only [decide_eq_true_eq];omega
 have e2:(f.all fun z=>decide (Krab.sum v z<=Krab.sum u z))=((f.map fun z=>dot (gaps k u v) z).all fun g=>decide (0<=g)):=by
  rw [List.all_map]
  congr 1
  funext z
  simp only [Function.comp_apply,dot_gaps k u v z hu hv]
  rw [Bool.eq_iff_iff];simp only [decide_eq_true_eq];omega
 rw [e1,e2]
def prizeGaps (f:List (List Nat)) (p q:Nat):List Int:=f.map fun z=>((z.getD p 0:Nat):Int) - ((z.getD q 0:Nat):Int)
theorem prizes_eq (f:List (List Nat)) (p q:Nat):(if (f.all fun z=>decide (z.getD q 0<z.getD p 0))=true then 2 else if (f.all fun z=>decide (z.getD q 0<=z.getD p 0))=true then 1 else 0)=above (prizeGaps f p q):=by
 unfold above prizeGaps
 have e1:(f.all fun z=>decide (z.getD q 0<z.getD p 0))=((f.map fun z=>((z.getD p 0:Nat):Int) - ((z.getD q 0:Nat):Int)).all fun g=>decide (0<g)):=by
  rw [List.all_map]
  congr 1
  funext z
  simp only [Function.comp_apply]
  rw [Bool.eq_iff_iff];simp only [decide_eq_true_eq];omega
 have e2:(f.all fun z=>decide (z.getD q 0<=z.getD p 0))=((f.map fun z=>((z.getD p 0:Nat):Int) - ((z.getD q 0:Nat):Int)).all fun g=>decide (0<=g)):=by
  rw [List.all_map]
  congr 1
  funext z
  simp only [Function.comp_apply]
  rw [Bool.eq_iff_iff];simp only [decide_eq_true_eq];omega
 rw [e1,e2]
theorem above_zero (gs:List Int):above gs=0 ↔ ∃ g ∈ gs,g<0:=by
 unfold above
 constructor
 ·intro h
  split at h
  ·omega
  ·split at h
   ·omega
   ·rename_i k
    rw [Bool.not_eq_true,List.all_eq_false] at k
    obtain ⟨g,hg,k⟩:=k
    exact ⟨g,hg,by simpa using k⟩
 ·rintro ⟨g,hg,k⟩
  have n1:¬ (gs.all (fun g=>decide (0<g)))=true:=fun z=>by have:=List.all_eq_true.mp z g hg;simp at this;omega
  have n2:¬ (gs.all (fun g=>decide (0<=g)))=true:=fun z=>by have:=List.all_eq_true.mp z g hg;simp at this;omega
  rw [if_neg n1,if_neg n2]
theorem inEach_eq (f:List (List Nat)) (l m:List Nat) (n:Nat):Krag.inEach f l m n=(List.range n).all fun i=>!decide (above (prizeGaps f (l.getD i 0) (m.getD i 0))=0):=by
 unfold Krag.inEach
 rw [Bool.eq_iff_iff,List.all_eq_true,List.all_eq_true]
 constructor
 ·intro h i hi
  rw [Bool.not_eq_true',decide_eq_false_iff_not,above_zero]
  rintro ⟨g,hg,k⟩
  obtain ⟨z,hz,rfl⟩:=List.mem_map.mp hg
  have:=List.all_eq_true.mp (h z hz) i hi
  simp only [decide_eq_true_eq] at this
  omega
 ·intro h z hz
  rw [List.all_eq_true]
  intro i hi
  have:=h i hi
  rw [Bool.not_eq_true',decide_eq_false_iff_not,above_zero] at this
  simp only [decide_eq_true_eq]
  by_cases q:z.getD (m.getD i 0) 0<=z.getD (l.getD i 0) 0
  ·exact q
  ·exact absurd ⟨_,List.mem_map.mpr ⟨z,hz,rfl⟩,by omega⟩ this
def tops (s:List (List Nat)) (z:List Nat) (l:Nat):Bool:=Krab.sum (s.getD l []) z==(s.map fun u=>Krab.sum u z).foldl max 0
def times (s f:List (List Nat)) (l:Nat):Nat:=f.countP fun z=>tops s z l
theorem best_contains (s:List (List Nat)) (z:List Nat) (l:Nat) (hl:l<s.length):(Krag.best s z).contains l=tops s z l:=by
 unfold Krag.best tops
 rw [Bool.eq_iff_iff,List.contains_iff_mem,List.mem_filter]
 simp [hl]
theorem best_eq (s f:List (List Nat)) (n:Nat) (hn:s.length=n):((List.range n).filter fun l=>(f.map fun z=>Krag.best s z).all fun k=>k.contains l)=(List.range n).filter fun l=>decide (f.length<=times s f l):=by
 apply List.filter_congr
 intro l hl
 have hl:l<s.length:=by rw [hn];exact List.mem_range.mp hl
 rw [List.all_map,Bool.eq_iff_iff,List.all_eq_true,decide_eq_true_eq]
 have:f.length<=times s f l ↔ times s f l=f.length:=⟨fun h=>Nat.le_antisymm List.countP_le_length h,fun h=>Nat.le_of_eq h.symm⟩
 rw [this]
 unfold times
 rw [List.countP_eq_length]
 constructor
 ·intro h z hz;have:=h z hz;simp only [Function.comp_apply] at this;rw [best_contains s z l hl] at this;exact this
 ·intro h z hz;simp only [Function.comp_apply];rw [best_contains s z l hl];exact h z hz
theorem maybest_eq (s f:List (List Nat)) (n:Nat) (hn:s.length=n):((List.range n).filter fun l=>(f.map fun z=>Krag.best s z).any fun k=>k.contains l)=(List.range n).filter fun l=>decide (1<=times s f l):=by
 apply List.filter_congr
 intro l hl
 have hl:l<s.length:=by rw [hn];exact List.mem_range.mp hl
 rw [List.any_map,Bool.eq_iff_iff,List.any_eq_true,decide_eq_true_eq]
 have:1<=times s f l ↔ 0<times s f l:=Iff.rfl
 rw [this]
 unfold times
 rw [List.countP_pos_iff]
 constructor
 ·rintro ⟨z,hz,h⟩;simp only [Function.comp_apply] at h;rw [best_contains s z l hl] at h;exact ⟨z,hz,h⟩
 ·rintro ⟨z,hz,h⟩;exact ⟨z,hz,by simp only [Function.comp_apply];rw [best_contains s z l hl];exact h⟩
def sumOver (x z l:List Nat) (c:Nat):Nat:=((List.range x.length).map fun i=>if c.testBit i then x.getD i 0 * z.getD (l.getD i 0) 0 else 0).sum
def bestOver (lots:List (List Nat)) (x z:List Nat) (c:Nat):Nat:=(lots.map fun l=>sumOver x z l c).foldl max 0
theorem map_sum_congr {l:List Nat} {f g:Nat->Nat} (h:∀ i ∈ l,f i=g i):(l.map f).sum=(l.map g).sum:=by
 rw [List.map_congr_left h]
theorem part_true (b:Krag.Book) (x z:List Nat) (s:Nat):Krag.part b x z s true=bestOver b.lots x z s:=by
 unfold Krag.part bestOver sumOver
 congr 1
 apply List.map_congr_left
 intro l _
 rw [foldl_add0]
 apply map_sum_congr
 intro i _
 rw [has_eq]
 cases s.testBit i <;> rfl
theorem part_false (b:Krag.Book) (x z:List Nat) (s:Nat) (hs:s<2 ^ x.length):Krag.part b x z s false=bestOver b.lots x z (2 ^ x.length - 1 - s):=by
 unfold Krag.part bestOver sumOver
 congr 1
 apply List.map_congr_left
 intro l _
 rw [foldl_add0]
 apply map_sum_congr
 intro i hi
 have hi:=List.mem_range.mp hi
 rw [has_eq,show 2 ^ x.length - 1 - s=2 ^ x.length - (s+1) by omega,Nat.testBit_two_pow_sub_succ hs]
 cases s.testBit i <;> simp [hi]
theorem sum_map_add (l:List Nat) (f g:Nat->Nat):(l.map fun i=>f i+g i).sum=(l.map f).sum+(l.map g).sum:=by
 induction l with
 | nil=>rfl
 | cons a r ih=>simp only [List.map_cons,List.sum_cons,ih];omega
theorem sum_map_zero (l:List Nat):(l.map fun _=>0).sum=0:=by
 induction l with
 | nil=>rfl
 | cons a r ih=>simp only [List.map_cons,List.sum_cons,ih]
theorem sum_single (p k v:Nat) (hk:k<p):((List.range p).map fun j=>if k=j then v else 0).sum=v:=by
 induction p with
 | zero=>omega
 | succ p ih=>
  rw [List.range_succ,List.map_append,List.sum_append]
  by_cases h:k=p
  ·subst h
   have:((List.range k).map fun j=>if k=j then v else 0).sum=0:=by
    refine (map_sum_congr (g:=fun _=>0) ?_).trans (sum_map_zero _)
    intro j hj
    have:=List.mem_range.mp hj
    rw [if_neg (by omega)]
   simp [this]
  ·rw [ih (by omega)]
   simp [h]
theorem side_dot (x l z:List Nat) (p:Nat):∀ m,(∀ i,i<m->l.getD i 0<p)->((List.range p).map fun k=>sidePart x l m k * z.getD k 0).sum=((List.range m).map fun i=>x.getD i 0 * z.getD (l.getD i 0) 0).sum
 | 0,_=>by
  simp only [sidePart,List.range_zero,List.map_nil,List.sum_nil,Nat.zero_mul]
  exact sum_map_zero _
 | m+1,h=>by
  have ih:=side_dot x l z p m fun i hi=>h i (by omega)
  have e:(fun k=>sidePart x l (m+1) k * z.getD k 0)=fun k=>sidePart x l m k * z.getD k 0+(if l.getD m 0=k then x.getD m 0 * z.getD (l.getD m 0) 0 else 0):=by
   funext k
   rw [sidePart_succ,Nat.add_mul]
   split
   ·rename_i q;rw [q]
   ·simp
  rw [e,sum_map_add,ih,sum_single _ _ _ (h m (by omega)),List.range_succ,List.map_append,List.sum_append]
  simp
theorem worth_eq (x l z:List Nat) (p:Nat) (hz:z.length=p) (hl:∀ i,i<x.length->l.getD i 0<p):Krab.sum (Krag.sideOf p x l) z=((List.range x.length).map fun i=>x.getD i 0 * z.getD (l.getD i 0) 0).sum:=by
 rw [<-side_dot x l z p x.length hl]
 unfold Krab.sum
 rw [foldl_add0,hz]
 apply map_sum_congr
 intro k hk
 rw [sideOf_eq,getD_range_map _ _ _ (List.mem_range.mp hk)]
theorem sumOver_full (x l z:List Nat):sumOver x z l (2 ^ x.length - 1)=((List.range x.length).map fun i=>x.getD i 0 * z.getD (l.getD i 0) 0).sum:=by
 unfold sumOver
 apply map_sum_congr
 intro i hi
 rw [Nat.testBit_two_pow_sub_one]
 simp [List.mem_range.mp hi]
theorem unlearnt_eq (b:Krag.Book) (x z:List Nat) (hz:z.length=b.prizes) (hl:∀ l ∈ b.lots,∀ i,i<x.length->l.getD i 0<b.prizes):Krag.unlearnt b x z=bestOver b.lots x z (2 ^ x.length - 1):=by
 unfold Krag.unlearnt bestOver Krag.worth
 congr 1
 apply List.map_congr_left
 intro l h
 rw [sumOver_full,worth_eq x l z b.prizes hz (hl l h)]
theorem best_ge (lots:List (List Nat)) (x z l:List Nat) (c:Nat) (h:l ∈ lots):sumOver x z l c<=bestOver lots x z c:=(foldl_max_ge _ 0).2.1 _ (List.mem_map.mpr ⟨l,h,rfl⟩)
theorem at_once_le (lots:List (List Nat)) (x z:List Nat) (full:Nat) (cases_:List Nat) (h:∀ l ∈ lots,sumOver x z l full=(cases_.map fun c=>sumOver x z l c).sum):bestOver lots x z full<=(cases_.map fun c=>bestOver lots x z c).sum:=by
 rcases (foldl_max_ge (lots.map fun l=>sumOver x z l full) 0).2.2 with q | q
 ·unfold bestOver at *
  rw [q]
  omega
 ·obtain ⟨l,hl,e⟩:=List.mem_map.mp q
  have e:sumOver x z l full=bestOver lots x z full:=e
  rw [<-e,h l hl]
  have:∀ cs:List Nat,(cs.map fun c=>sumOver x z l c).sum<=(cs.map fun c=>bestOver lots x z c).sum:=by
   intro cs
   induction cs with
   | nil=>simp
   | cons c r ih=>
    have:=best_ge lots x z l c hl
    simp only [List.map_cons,List.sum_cons]
    omega
  exact this _
theorem split_two (x z l:List Nat) (s:Nat) (hs:s<2 ^ x.length):sumOver x z l (2 ^ x.length - 1)=(([s,2 ^ x.length - 1 - s]:List Nat).map fun c=>sumOver x z l c).sum:=by
 simp only [List.map_cons,List.map_nil,List.sum_cons,List.sum_nil,Nat.add_zero]
 rw [sumOver_full]
 unfold sumOver
 rw [<-sum_map_add]
 apply map_sum_congr
 intro i hi
 have hi:=List.mem_range.mp hi
 rw [show 2 ^ x.length - 1 - s=2 ^ x.length - (s+1) by omega,Nat.testBit_two_pow_sub_succ hs]
 cases s.testBit i <;> simp [hi]
theorem sumOver_pow (x z l:List Nat) (w:Nat) (hw:w<x.length):sumOver x z l (2 ^ w)=x.getD w 0 * z.getD (l.getD w 0) 0:=by
 unfold sumOver
 rw [<-sum_single x.length w (x.getD w 0 * z.getD (l.getD w 0) 0) hw]
 apply map_sum_congr
 intro i _
 rw [Nat.testBit_two_pow]
 by_cases e:w=i
 ·subst e;simp
 ·simp [e]
theorem split_all (x z l:List Nat):sumOver x z l (2 ^ x.length - 1)=(((List.range x.length).map fun w=>2 ^ w).map fun c=>sumOver x z l c).sum:=by
 rw [sumOver_full,List.map_map]
 apply map_sum_congr
 intro i hi
 rw [Function.comp_apply,sumOver_pow x z l i (List.mem_range.mp hi)]
theorem max_mul (a:Nat):∀ (l:List Nat) (b:Nat),(l.map fun y=>a * y).foldl max (a * b)=a * l.foldl max b
 | [],b=>rfl
 | y::r,b=>by
  rw [List.map_cons,List.foldl_cons,List.foldl_cons,<-max_mul a r (max b y)]
  congr 1
  rw [Nat.mul_max_mul_left]
theorem bestOver_pow (lots:List (List Nat)) (x z:List Nat) (w:Nat) (hw:w<x.length):bestOver lots x z (2 ^ w)=x.getD w 0 * (lots.map fun l=>z.getD (l.getD w 0) 0).foldl max 0:=by
 unfold bestOver
 rw [<-max_mul,List.map_map,Nat.mul_zero]
 congr 1
 apply List.map_congr_left
 intro l _
 rw [sumOver_pow x z l w hw,Function.comp_apply]
theorem learnAll_eq (lots:List (List Nat)) (x z:List Nat) (n:Nat) (hn:x.length=n):((List.range n).map fun i=>x.getD i 0 * (lots.map fun l=>z.getD (l.getD i 0) 0).foldl max 0).foldl (fun a c=>a+c) 0=(((List.range n).map fun w=>2 ^ w).map fun c=>bestOver lots x z c).sum:=by
 rw [foldl_add0,List.map_map]
 apply map_sum_congr
 intro w hw
 rw [Function.comp_apply,bestOver_pow _ _ _ _ (by rw [hn];exact List.mem_range.mp hw)]
def sumPart (x z l:List Nat) (c i:Nat):Nat:=((List.range i).map fun i=>if c.testBit i then x.getD i 0 * z.getD (l.getD i 0) 0 else 0).sum
theorem sumPart_succ (x z l:List Nat) (c i:Nat):sumPart x z l c (i+1)=sumPart x z l c i+(if c.testBit i then x.getD i 0 * z.getD (l.getD i 0) 0 else 0):=by
 unfold sumPart
 rw [List.range_succ,List.map_append,List.sum_append]
 simp
theorem gcd_step (a b:Nat) (hb:b ≠ 0):Nat.gcd b (a % b)=Nat.gcd a b:=by
 rw [Nat.gcd_comm a b,Nat.gcd_rec b a,Nat.gcd_comm]
theorem without_eq {α:Type} (l:List α) (i:Nat):l.take i++l.drop (i+1)=l.eraseIdx i:=(List.eraseIdx_eq_take_drop_succ l i).symm
theorem replaced_eq {α:Type} (l:List α) (i:Nat) (v:α) (h:i<l.length):l.take i++[v]++l.drop (i+1)=l.set i v:=by
 rw [List.set_eq_take_append_cons_drop,if_pos h]
 simp
theorem last_rev {α:Type} (l:List α) (k:Nat):(l.reverse).drop (l.length - k)=(l.take k).reverse:=by
 rw [List.drop_reverse]
 congr 1
 by_cases h:k<=l.length
 ·congr 1;omega
 ·rw [List.take_of_length_le (by omega),List.take_of_length_le (by omega)]
section
open Krae (less sets through onward step closure toldAt start)
def startV (n:Nat) (l:List Krae.Told) (u v:Nat):Nat:=max (toldAt l u v) (if v=0 then (if u=sets n - 1 then 2 else 1) else 0)
structure Cl (n:Nat) (l:List Krae.Told) (R:Nat->Nat->Nat):Prop where
 inv:∀ a,a<2 ^ n->∀ b,b<2 ^ n->R a b=R (less a b) (less b a)
 st:∀ a,a<2 ^ n->∀ b,b<2 ^ n->startV n l (less a b) (less b a)<=R a b
 tr:∀ a,a<2 ^ n->∀ b,b<2 ^ n->∀ c,c<2 ^ n->R a b ≠ 0->R b c ≠ 0->max (R a b) (R b c)<=R a c
def bitF (n:Nat):Prop:=(∀ a,a<2 ^ n->∀ b,b<2 ^ n->less a b<2 ^ n/\less (less a b) (less b a)=less a b/\less a b+(a &&& b)=a/\(a &&& b) &&& (less a b+less b a)=0/\a &&& b<2 ^ n)/\
 (∀ a,a<2 ^ n->∀ b,b<2 ^ n->∀ w,w<2 ^ n->w &&& (less a b+less b a)=0->less a b+w<2 ^ n/\less (less a b+w) (less b a+w)=less a b)
theorem bit1:bitF 1:=by unfold bitF;decide +kernel
theorem bit2:bitF 2:=by unfold bitF;decide +kernel
theorem bit3:bitF 3:=by unfold bitF;decide +kernel
theorem bit4:bitF 4:=by unfold bitF;decide +kernel
theorem bit_all {n:Nat} (h1:1<=n) (h4:n<=4):bitF n:=by
 match n,h1,h4 with
 | 1,_,_=>exact bit1
 | 2,_,_=>exact bit2
 | 3,_,_=>exact bit3
 | 4,_,_=>exact bit4
def tab (n:Nat) (f:Nat->Nat->Nat):Krae.Rel:=((List.range (sets n * sets n)).map fun x=>f (x / sets n) (x % sets n)).toArray
theorem get_tab {n:Nat} {f:Nat->Nat->Nat} {a b:Nat} (ha:a<2 ^ n) (hb:b<2 ^ n):Krae.get n (tab n f) a b=f a b:=by
 unfold Krae.get tab
 have hs:sets n=2 ^ n:=rfl
 rw [hs]
 have hpos:0<2 ^ n:=Nat.pow_pos (by decide)
 have hlt:a * 2 ^ n+b<2 ^ n * 2 ^ n:=by
  have:(a+1) * 2 ^ n<=2 ^ n * 2 ^ n:=Nat.mul_le_mul_right _ ha
  rw [Nat.add_mul] at this
  omega
 have e1:(a * 2 ^ n+b) / 2 ^ n=a:=by
  rw [Nat.mul_comm,Nat.mul_add_div hpos,Nat.div_eq_of_lt hb];omega
 have e2:(a * 2 ^ n+b) % 2 ^ n=b:=by
  rw [Nat.mul_comm,Nat.mul_add_mod,Nat.mod_eq_of_lt hb]
 simp [Array.getD_eq_getD_getElem?,hlt,e1,e2]
theorem start_tab (n:Nat) (l:List Krae.Told):start n l=tab n fun a b=>startV n l (less a b) (less b a):=rfl
def onwardV (n:Nat) (r:Krae.Rel) (a b:Nat):Nat:=(List.range (sets n)).foldl (fun z c=>max z (through (Krae.get n r a c) (Krae.get n r c b))) (Krae.get n r a b)
theorem onward_tab (n:Nat) (r:Krae.Rel):onward n r=tab n (onwardV n r):=by
 unfold onward tab onwardV
 congr 1
 apply List.map_congr_left
 intro x _
 have:x / sets n * sets n+x % sets n=x:=Nat.div_add_mod' x (sets n)
 simp only [Krae.get]
 rw [this]
def stepV (n:Nat) (r:Krae.Rel) (a b:Nat):Nat:=(List.range (sets n)).foldl (fun z w=>if w &&& (less a b+less b a)=0 then max z (Krae.get n (onward n r) (less a b+w) (less b a+w)) else z) 0
theorem step_tab (n:Nat) (r:Krae.Rel):step n r=tab n (stepV n r):=rfl
theorem fold_max_if_ge (p:Nat->Bool) (f:Nat->Nat):∀ (l:List Nat) (z:Nat),z<=l.foldl (fun z w=>if p w=true then max z (f w) else z) z/\(∀ w ∈ l,p w=true->f w<=l.foldl (fun z w=>if p w=true then max z (f w) else z) z)
 | [],z=>⟨Nat.le_refl _,fun w h=>by cases h⟩
 | a::l,z=>by
  rw [List.foldl_cons]
  obtain ⟨h1,h2⟩:=fold_max_if_ge p f l (if p a=true then max z (f a) else z)
  constructor
  ·refine Nat.le_trans ?_ h1
   split <;> omega
  ·intro w hw hp
   rcases List.mem_cons.mp hw with e | hw
   ·subst e
    refine Nat.le_trans ?_ h1
    rw [if_pos hp];omega
   ·exact h2 w hw hp
theorem fold_max_if_le (p:Nat->Bool) (f:Nat->Nat) (M:Nat):∀ (l:List Nat) (z:Nat),z<=M->(∀ w ∈ l,p w=true->f w<=M)->l.foldl (fun z w=>if p w=true then max z (f w) else z) z<=M
 | [],z,hz,_=>hz
 | a::l,z,hz,h=>by
  rw [List.foldl_cons]
  refine fold_max_if_le p f M l _ ?_ fun w hw=>h w (List.mem_cons_of_mem _ hw)
  split
  ·rename_i hp
   have:=h a List.mem_cons_self hp
   omega
  ·exact hz
theorem fold_max_ge (f:Nat->Nat) (l:List Nat) (z:Nat):z<=l.foldl (fun z w=>max z (f w)) z/\(∀ w ∈ l,f w<=l.foldl (fun z w=>max z (f w)) z):=by
 have:=fold_max_if_ge (fun _=>true) f l z
 simpa using this
theorem fold_max_le (f:Nat->Nat) (M:Nat) (l:List Nat) (z:Nat) (hz:z<=M) (h:∀ w ∈ l,f w<=M):l.foldl (fun z w=>max z (f w)) z<=M:=by
 have:=fold_max_if_le (fun _=>true) f M l z hz (fun w hw _=>h w hw)
 simpa using this
theorem stepV_dec (n:Nat) (r:Krae.Rel) (a b:Nat):stepV n r a b=(List.range (sets n)).foldl (fun z w=>if (decide (w &&& (less a b+less b a)=0))=true then max z (Krae.get n (onward n r) (less a b+w) (less b a+w)) else z) 0:=by
 unfold stepV
 simp only [decide_eq_true_eq]
section
variable {n:Nat} {l:List Krae.Told} (h1:1<=n) (h4:n<=4)
structure Way (n:Nat) (l:List Krae.Told) (r:Krae.Rel):Prop where
 isT:∃ f,r=tab n f
 inv:∀ a,a<2 ^ n->∀ b,b<2 ^ n->Krae.get n r a b=Krae.get n r (less a b) (less b a)
 st:∀ a,a<2 ^ n->∀ b,b<2 ^ n->startV n l (less a b) (less b a)<=Krae.get n r a b
 two:∀ a,a<2 ^ n->∀ b,b<2 ^ n->Krae.get n r a b<=2
 low:∀ R,Cl n l R->∀ a,a<2 ^ n->∀ b,b<2 ^ n->Krae.get n r a b<=R a b
theorem told_le_two (l:List Krae.Told) (u v:Nat):toldAt l u v<=2:=by
 unfold toldAt
 have:∀ (m:List Krae.Told) (z:Nat),z<=2->m.foldl (fun z t=>max z (if (less t.a t.b==u && less t.b t.a==v)=true then (if t.kind=0 then 2 else 1) else if (decide (t.kind=2) && (less t.b t.a==u && less t.a t.b==v))=true then 1 else 0)) z<=2:=by
  intro m
  induction m with
  | nil=>intro z hz;exact hz
  | cons t m ih=>
   intro z hz
   rw [List.foldl_cons]
   apply ih
   split
   ·split <;> omega
   ·split <;> omega
 exact this l 0 (by omega)
theorem startV_le_two (n:Nat) (l:List Krae.Told) (u v:Nat):startV n l u v<=2:=by
 unfold startV
 have:=told_le_two l u v
 split
 ·split <;> omega
 ·omega
include h1 h4
theorem way_start:Way n l (start n l):=by
 have B:=bit_all h1 h4
 rw [start_tab]
 refine ⟨⟨_,rfl⟩,fun a ha b hb=>?_,fun a ha b hb=>?_,fun a ha b hb=>?_,fun R C a ha b hb=>?_⟩
 ·obtain ⟨q1,q2,_⟩:=B.1 a ha b hb
  obtain ⟨q3,q4,_⟩:=B.1 b hb a ha
  rw [get_tab ha hb,get_tab q1 q3,q2,q4]
 ·rw [get_tab ha hb];exact Nat.le_refl _
 ·rw [get_tab ha hb];exact startV_le_two n l _ _
 ·rw [get_tab ha hb];exact C.st a ha b hb
theorem onward_low {r:Krae.Rel} (W:Way n l r) {R:Nat->Nat->Nat} (C:Cl n l R) (a:Nat) (ha:a<2 ^ n) (b:Nat) (hb:b<2 ^ n):Krae.get n (onward n r) a b<=R a b:=by
 rw [onward_tab,get_tab ha hb]
 unfold onwardV
 refine fold_max_le _ _ _ _ (W.low R C a ha b hb) fun c hc=>?_
 have hc:c<2 ^ n:=List.mem_range.mp hc
 unfold through
 split
 ·omega
 ·rename_i k
  have k1:Krae.get n r a c ≠ 0:=fun e=>k (.inl e)
  have k2:Krae.get n r c b ≠ 0:=fun e=>k (.inr e)
  have l1:=W.low R C a ha c hc
  have l2:=W.low R C c hc b hb
  have:=C.tr a ha c hc b hb (by omega) (by omega)
  omega
theorem onward_two {r:Krae.Rel} (W:Way n l r) (a:Nat) (ha:a<2 ^ n) (b:Nat) (hb:b<2 ^ n):Krae.get n (onward n r) a b<=2:=by
 rw [onward_tab,get_tab ha hb]
 unfold onwardV
 refine fold_max_le _ _ _ _ (W.two a ha b hb) fun c hc=>?_
 have hc:c<2 ^ n:=List.mem_range.mp hc
 unfold through
 split
 ·omega
 ·have:=W.two a ha c hc
  have:=W.two c hc b hb
  omega
theorem onward_ge {r:Krae.Rel} (a:Nat) (ha:a<2 ^ n) (b:Nat) (hb:b<2 ^ n):Krae.get n r a b<=Krae.get n (onward n r) a b:=by
 rw [onward_tab,get_tab ha hb]
 exact (fold_max_ge _ _ _).1
theorem step_ge {r:Krae.Rel} (W:Way n l r) (a:Nat) (ha:a<2 ^ n) (b:Nat) (hb:b<2 ^ n) (w:Nat) (hw:w<2 ^ n) (hz:w &&& (less a b+less b a)=0) :
  Krae.get n (onward n r) (less a b+w) (less b a+w)<=Krae.get n (step n r) a b:=by
 rw [step_tab,get_tab ha hb,stepV_dec]
 exact (fold_max_if_ge (fun w=>decide (w &&& (less a b+less b a)=0)) (fun w=>Krae.get n (onward n r) (less a b+w) (less b a+w)) (List.range (sets n)) 0).2 w (List.mem_range.mpr hw) (by simpa using hz)
theorem step_up {r:Krae.Rel} (W:Way n l r) (a:Nat) (ha:a<2 ^ n) (b:Nat) (hb:b<2 ^ n):Krae.get n r a b<=Krae.get n (step n r) a b:=by
 have B:=bit_all h1 h4
 obtain ⟨q1,_⟩:=B.1 a ha b hb
 obtain ⟨q3,_⟩:=B.1 b hb a ha
 have hpos:0<2 ^ n:=Nat.pow_pos (by decide)
 have:=step_ge h1 h4 W a ha b hb 0 hpos (by simp)
 have k:=onward_ge h1 h4 (r:=r) (less a b) q1 (less b a) q3
 rw [W.inv a ha b hb]
 simp only [Nat.add_zero] at this
 omega
theorem way_step {r:Krae.Rel} (W:Way n l r):Way n l (step n r):=by
 have B:=bit_all h1 h4
 refine ⟨⟨_,step_tab n r⟩,fun a ha b hb=>?_,fun a ha b hb=>?_,fun a ha b hb=>?_,fun R C a ha b hb=>?_⟩
 ·obtain ⟨q1,q2,_⟩:=B.1 a ha b hb
  obtain ⟨q3,q4,_⟩:=B.1 b hb a ha
  rw [step_tab,get_tab ha hb,get_tab q1 q3]
  unfold stepV
  rw [q2,q4]
 ·exact Nat.le_trans (W.st a ha b hb) (step_up h1 h4 W a ha b hb)
 ·rw [step_tab,get_tab ha hb,stepV_dec]
  refine fold_max_if_le (fun w=>decide (w &&& (less a b+less b a)=0)) (fun w=>Krae.get n (onward n r) (less a b+w) (less b a+w)) 2 _ _ (by omega) fun w hw hz=>?_
  have hz:w &&& (less a b+less b a)=0:=by simpa using hz
  have hw:w<2 ^ n:=List.mem_range.mp hw
  obtain ⟨k1,k2⟩:=B.2 a ha b hb w hw hz
  obtain ⟨k3,k4⟩:=B.2 b hb a ha w hw (by rw [Nat.add_comm];exact hz)
  exact onward_two h1 h4 W _ k1 _ k3
 ·rw [step_tab,get_tab ha hb,stepV_dec]
  refine fold_max_if_le (fun w=>decide (w &&& (less a b+less b a)=0)) (fun w=>Krae.get n (onward n r) (less a b+w) (less b a+w)) (R a b) _ _ (by omega) fun w hw hz=>?_
  have hz:w &&& (less a b+less b a)=0:=by simpa using hz
  have hw:w<2 ^ n:=List.mem_range.mp hw
  obtain ⟨k1,k2⟩:=B.2 a ha b hb w hw hz
  obtain ⟨k3,k4⟩:=B.2 b hb a ha w hw (by rw [Nat.add_comm];exact hz)
  have:=onward_low h1 h4 W C _ k1 _ k3
  rw [C.inv _ k1 _ k3,k2,k4,<-C.inv a ha b hb] at this
  exact this
theorem cl_fixed {r:Krae.Rel} (W:Way n l r) (hf:step n r=r):Cl n l (Krae.get n r):=by
 have B:=bit_all h1 h4
 refine ⟨W.inv,W.st,fun a ha b hb c hc k1 k2=>?_⟩
 obtain ⟨q1,q2,q3,q4,q5⟩:=B.1 a ha c hc
 obtain ⟨p1,p2,p3,p4,p5⟩:=B.1 c hc a ha
 have s:=step_ge h1 h4 W a ha c hc (a &&& c) q5 q4
 rw [q3,Nat.and_comm a c,p3,hf,onward_tab,get_tab ha hc] at s
 have s2:=(fold_max_ge (fun d=>through (Krae.get n r a d) (Krae.get n r d c)) (List.range (sets n)) (Krae.get n r a c)).2 b (List.mem_range.mpr hb)
 have s3:through (Krae.get n r a b) (Krae.get n r b c)=max (Krae.get n r a b) (Krae.get n r b c):=by
  unfold through
  rw [if_neg]
  rintro (k | k)
  ·exact k1 k
  ·exact k2 k
 simp only [s3] at s2
 exact Nat.le_trans s2 s
theorem tab_ext {f g:Nat->Nat->Nat} (h:∀ a,a<2 ^ n->∀ b,b<2 ^ n->f a b=g a b):tab n f=tab n g:=by
 unfold tab
 congr 1
 apply List.map_congr_left
 intro x hx
 have hpos:0<2 ^ n:=Nat.pow_pos (by decide)
 have hs:sets n=2 ^ n:=rfl
 have hx:x<2 ^ n * 2 ^ n:=List.mem_range.mp hx
 rw [hs]
 exact h _ (Nat.div_lt_of_lt_mul hx) _ (Nat.mod_lt _ hpos)
end
def meas (n:Nat) (R:Nat->Nat->Nat):Nat:=((List.range (2 ^ n)).map fun a=>((List.range (2 ^ n)).map fun b=>2 - R a b).sum).sum
theorem sum_le_of {l:List Nat} {f g:Nat->Nat} (h:∀ x ∈ l,f x<=g x):(l.map f).sum<=(l.map g).sum:=by
 induction l with
 | nil=>simp
 | cons a r ih=>
  have:=ih fun x hx=>h x (List.mem_cons_of_mem _ hx)
  have:=h a List.mem_cons_self
  simp only [List.map_cons,List.sum_cons]
  omega
theorem sum_lt_of {l:List Nat} {f g:Nat->Nat} (h:∀ x ∈ l,f x<=g x) {y:Nat} (hy:y ∈ l) (hlt:f y<g y):(l.map f).sum<(l.map g).sum:=by
 induction l with
 | nil=>cases hy
 | cons a r ih=>
  have hr:=sum_le_of fun x hx=>h x (List.mem_cons_of_mem _ hx)
  have ha:=h a List.mem_cons_self
  simp only [List.map_cons,List.sum_cons]
  rcases List.mem_cons.mp hy with e | hy
  ·subst e;omega
  ·have:=ih (fun x hx=>h x (List.mem_cons_of_mem _ hx)) hy
   omega
theorem meas_lt {n:Nat} {R R':Nat->Nat->Nat} (up:∀ a,a<2 ^ n->∀ b,b<2 ^ n->R a b<=R' a b) {a b:Nat} (ha:a<2 ^ n) (hb:b<2 ^ n) (hlt:R a b<R' a b) (two:R' a b<=2):meas n R'<meas n R:=by
 unfold meas
 refine sum_lt_of (fun x hx=>sum_le_of fun y hy=>?_) (y:=a) (List.mem_range.mpr ha) (sum_lt_of (fun y hy=>?_) (y:=b) (List.mem_range.mpr hb) ?_)
 ·have:=up x (List.mem_range.mp hx) y (List.mem_range.mp hy);omega
 ·have:=up a ha y (List.mem_range.mp hy);omega
 ·omega
theorem meas_le (n:Nat) (R:Nat->Nat->Nat):meas n R<=2 * 2 ^ n * 2 ^ n:=by
 unfold meas
 have h:∀ (m k:Nat) (f:Nat->Nat),(∀ x,f x<=k)->((List.range m).map f).sum<=k * m:=by
  intro m k f hf
  induction m with
  | zero=>simp
  | succ m ih=>
   rw [List.range_succ,List.map_append,List.sum_append,Nat.mul_succ]
   have:=hf m
   simp only [List.map_cons,List.map_nil,List.sum_cons,List.sum_nil]
   omega
 refine h _ _ _ fun a=>h _ _ _ fun b=>by omega
theorem closure_ok {n:Nat} {l:List Krae.Told} (h1:1<=n) (h4:n<=4):∀ (k:Nat) (r:Krae.Rel),Way n l r->meas n (Krae.get n r)<k->Way n l (closure n k r)/\step n (closure n k r)=closure n k r
 | 0,r,_,h=>by omega
 | k+1,r,W,h=>by
  show Way n l (if step n r==r then r else closure n k (step n r))/\step n (if step n r==r then r else closure n k (step n r))=(if step n r==r then r else closure n k (step n r))
  by_cases e:(step n r==r)=true
  ·rw [if_pos e]
   exact ⟨W,eq_of_beq e⟩
  ·rw [if_neg e]
   refine closure_ok h1 h4 k (step n r) (way_step h1 h4 W) ?_
   have up:=step_up h1 h4 W
   have W':=way_step h1 h4 W
   have:∃ a,a<2 ^ n/\∃ b,b<2 ^ n/\Krae.get n r a b<Krae.get n (step n r) a b:=by
    refine Classical.byContradiction fun hn=>e ?_
    rw [beq_iff_eq]
    obtain ⟨f,hf⟩:=W.isT
    have:step n r=tab n f:=by
     rw [step_tab]
     apply tab_ext h1 h4
     intro a ha b hb
     have u:=up a ha b hb
     have q:Krae.get n (step n r) a b=Krae.get n r a b:=by
      by_cases z:Krae.get n r a b<Krae.get n (step n r) a b
      ·exact absurd ⟨a,ha,b,hb,z⟩ hn
      ·omega
     rw [step_tab,get_tab ha hb] at q
     rw [q,hf,get_tab ha hb]
    rw [this,<-hf]
   obtain ⟨a,ha,b,hb,hlt⟩:=this
   have:=meas_lt up ha hb hlt (W'.two a ha b hb)
   omega
theorem rel_least {n:Nat} {l:List Krae.Told} (h1:1<=n) (h4:n<=4):Cl n l (Krae.get n (Krae.relOf n l))/\∀ R,Cl n l R->∀ a,a<2 ^ n->∀ b,b<2 ^ n->Krae.get n (Krae.relOf n l) a b<=R a b:=by
 unfold Krae.relOf
 have:=meas_le n (Krae.get n (start n l))
 obtain ⟨W,hf⟩:=closure_ok h1 h4 (2 * sets n * sets n+1) (start n l) (way_start h1 h4) (by have:sets n=2 ^ n:=rfl;rw [this];omega)
 exact ⟨cl_fixed h1 h4 W hf,W.low⟩
theorem own_eq {n:Nat} {l:List Krae.Told} (h1:1<=n) (h4:n<=4) {R:Nat->Nat->Nat} (C:Cl n l R) (low:∀ R',Cl n l R'->∀ a,a<2 ^ n->∀ b,b<2 ^ n->R a b<=R' a b) {a b:Nat} (ha:a<2 ^ n) (hb:b<2 ^ n) :
  Krae.own n (Krae.relOf n l) a b=R a b:=by
 obtain ⟨C',low'⟩:=rel_least (l:=l) h1 h4
 unfold Krae.own
 rw [<-C'.inv a ha b hb]
 exact Nat.le_antisymm (low' R C a ha b hb) (low _ C' a ha b hb)
end
def flatC (c:List (List Int)):Int × List Int:=match c with
 | (p::xs)::[]=>(p,xs)
 | (p::_)::r::_=>(p,r)
 | _=>(0,[])
def counts:List Nat:=[2,3,1,0,1,3,3,1,0,0,0,0,0,0,1,2,3,2,0,0,2,1,0,0,0,0,1,2,1,1,0]
def hasRow (p:Int):Bool:=decide (p=3) || (decide (p=13) || decide (p=25))
theorem shape_nat:∀ k:Nat,k<31->PyKrag.shape (k:Int)=some (if hasRow (k:Int) then (0,1) else (counts.getD k 0,0)):=by decide +kernel
theorem shape_some {p:Int} {q:Nat × Nat} (h:PyKrag.shape p=some q):∃ k:Nat,k<31/\p=(k:Int):=by
 by_cases hp:0<=p/\p<31
 ·exact ⟨p.toNat,by omega,by omega⟩
 ·exfalso
  unfold PyKrag.shape at h
  repeat rw [if_neg (by omega)] at h
  cases h
theorem call_read {ns:List Int} {c:List (List Int)} {t:List Int} (h:PyFlat.call PyKrag.shape ns=some (c,t)) :
  ∃ (k:Nat) (r:List Int),k<31/\ns=(k:Int)::r/\
   ((hasRow (k:Int)=false/\counts.getD k 0<=r.length/\c=[(k:Int)::r.take (counts.getD k 0)]/\t=r.drop (counts.getD k 0)) ∨
    (hasRow (k:Int)=true/\∃ (m:Nat) (r2:List Int),r=(m:Int)::r2/\m<=r2.length/\c=[[(k:Int)],r2.take m]/\t=r2.drop m)):=by
 cases ns with
 | nil=>simp [PyFlat.call] at h
 | cons p r=>
  simp only [PyFlat.call] at h
  cases hs:PyKrag.shape p with
  | none=>rw [hs] at h;simp at h
  | some q=>
   obtain ⟨k,hk,rfl⟩:=shape_some hs
   rw [shape_nat k hk] at h hs
   refine ⟨k,r,hk,rfl,?_⟩
   by_cases hr:hasRow (k:Int)=true
   ·right
    refine ⟨hr,?_⟩
    simp only [hr,if_true,Nat.not_lt_zero,if_false,List.drop_zero,List.take_zero,PyFlat.rows] at h
    cases r with
    | nil=>simp [PyFlat.row] at h
    | cons n r2=>
     simp only [PyFlat.row] at h
     by_cases hn:0<=n/\n.toNat<=r2.length
     ·simp only [hn,and_self,if_true] at h
      obtain ⟨h1,h2⟩:=Prod.mk.inj (Option.some.inj h)
      refine ⟨n.toNat,r2,by rw [Int.toNat_of_nonneg hn.1],hn.2,h1.symm,h2.symm⟩
     ·rw [if_neg hn] at h
      cases h
   ·left
    have hr:hasRow (k:Int)=false:=by simpa using hr
    refine ⟨hr,?_⟩
    simp only [hr,Bool.false_eq_true,if_false] at h
    by_cases hl:r.length<counts.getD k 0
    ·rw [if_pos hl] at h;cases h
    ·rw [if_neg hl] at h
     simp only [PyFlat.rows] at h
     obtain ⟨h1,h2⟩:=Prod.mk.inj (Option.some.inj h)
     exact ⟨by omega,h1.symm,h2.symm⟩
theorem calls_nil (f:Nat):PyFlat.calls PyKrag.shape f []=some []:=by cases f <;> rfl
theorem calls_cons {f:Nat} {ns:List Int} {raw:List (List (List Int))} (h:PyFlat.calls PyKrag.shape f ns=some raw) (hn:ns ≠ []) :
  ∃ (g:Nat) (c:List (List Int)) (t:List Int) (cs:List (List (List Int))),raw=c::cs/\PyFlat.call PyKrag.shape ns=some (c,t)/\PyFlat.calls PyKrag.shape g t=some cs:=by
 cases ns with
 | nil=>exact absurd rfl hn
 | cons p r=>
  cases f with
  | zero=>simp [PyFlat.calls] at h
  | succ f=>
   unfold PyFlat.calls at h
   cases hc:PyFlat.call PyKrag.shape (p::r) with
   | none=>rw [hc] at h;cases h
   | some ct=>
    obtain ⟨c,t⟩:=ct
    rw [hc] at h
    simp only at h
    cases hcs:PyFlat.calls PyKrag.shape f t with
    | none=>rw [hcs] at h;cases h
    | some cs=>
     rw [hcs] at h
     exact ⟨f,c,t,cs,(Option.some.inj h).symm,rfl,hcs⟩
section
open Krae (less sets toldAt)
abbrev KR:=Nat->Nat->Nat
def Rv (R:KR) (a b:Nat):Nat:=R (less a b) (less b a)
def tdR (R:KR) (a b lv:Nat):KR:=fun u v=>if u=less a b/\v=less b a then max (R u v) lv else R u v
theorem tdR_up (R:KR) (a b lv u v:Nat):R u v<=tdR R a b lv u v:=by
 unfold tdR
 split <;> omega
theorem tdR_same {R:KR} {a b lv:Nat} (h:lv<=Rv R a b):tdR R a b lv=R:=by
 funext u v
 unfold tdR
 split
 ·rename_i e
  obtain ⟨rfl,rfl⟩:=e
  unfold Rv at h
  omega
 ·rfl
theorem tdR_at (R:KR) (a b lv:Nat):Rv (tdR R a b lv) a b=max (Rv R a b) lv:=by
 unfold Rv tdR
 rw [if_pos ⟨rfl,rfl⟩]
structure Kok (n:Nat) (l:List Krae.Told) (R:KR):Prop where
 low:∀ C,Cl n l C->∀ a,a<2 ^ n->∀ b,b<2 ^ n->Rv R a b<=C a b
 two:∀ u v,R u v<=2
theorem Kok.td {n:Nat} {l:List Krae.Told} {R:KR} (h1:1<=n) (h4:n<=4) (k:Kok n l R) {a b lv:Nat} (ha:a<2 ^ n) (hb:b<2 ^ n) (hlv:lv<=2) (h:∀ C,Cl n l C->lv<=C a b):Kok n l (tdR R a b lv):=by
 refine ⟨fun C hC c hc d hd=>?_,fun u v=>?_⟩
 ·have:=k.low C hC c hc d hd
  unfold Rv tdR at *
  split
  ·rename_i e
   obtain ⟨e1,e2⟩:=e
   have h5:C c d=C a b:=by rw [hC.inv c hc d hd,hC.inv a ha b hb,e1,e2]
   have:=h C hC
   omega
  ·exact this
 ·have:=k.two u v
  unfold tdR
  split <;> omega
theorem meas_td {n:Nat} {R:KR} (h1:1<=n) (h4:n<=4) {a b lv:Nat} (ha:a<2 ^ n) (hb:b<2 ^ n) (hlv:lv<=2) (h:Rv R a b<lv) (two:∀ u v,R u v<=2):meas n (tdR R a b lv)<meas n R:=by
 have B:=bit_all h1 h4
 have u1:=(B.1 a ha b hb).1
 have u2:=(B.1 b hb a ha).1
 refine meas_lt (fun u _ v _=>tdR_up R a b lv u v) u1 u2 ?_ ?_
 ·have:=tdR_at R a b lv
  unfold Rv at this h
  omega
 ·have:=tdR_at R a b lv
  unfold Rv at this
  have:=two (less a b) (less b a)
  omega
def tdT (R:KR) (t:Krae.Told):KR:=if t.kind=2 then tdR (tdR R t.a t.b 1) t.b t.a 1 else tdR R t.a t.b (if t.kind=0 then 2 else 1)
def R0:KR:=fun _ _=>0
def R1 (k:Nat):KR:=(List.range k).foldl (fun R c=>tdR R c 0 1) R0
def R2 (n:Nat):KR:=tdR (R1 (2 ^ n)) (2 ^ n - 1) 0 2
def R3 (n:Nat) (l:List Krae.Told):KR:=l.foldl tdT (R2 n)
theorem R1_succ (k:Nat):R1 (k+1)=tdR (R1 k) k 0 1:=by
 unfold R1
 rw [List.range_succ,List.foldl_append]
 rfl
theorem R3_snoc (n:Nat) (l:List Krae.Told) (t:Krae.Told):R3 n (l++[t])=tdT (R3 n l) t:=by
 unfold R3
 rw [List.foldl_append]
 rfl
theorem less_zero (a:Nat):less a 0=a:=by unfold less;simp
theorem zero_less (a:Nat):less 0 a=0:=by unfold less;simp
def toldG (u v:Nat) (z:Nat) (t:Krae.Told):Nat:=max z (if (less t.a t.b==u && less t.b t.a==v)=true then (if t.kind=0 then 2 else 1) else if (decide (t.kind=2) && (less t.b t.a==u && less t.a t.b==v))=true then 1 else 0)
theorem toldAt_fold (l:List Krae.Told) (u v:Nat):toldAt l u v=l.foldl (toldG u v) 0:=rfl
theorem toldG_up (u v z:Nat):∀ l:List Krae.Told,z<=l.foldl (toldG u v) z
 | []=>Nat.le_refl _
 | t::l=>by
  rw [List.foldl_cons]
  refine Nat.le_trans ?_ (toldG_up u v _ l)
  unfold toldG
  omega
theorem told_ge (u v:Nat):∀ (l:List Krae.Told) (z:Nat) (t:Krae.Told),t ∈ l->toldG u v 0 t<=l.foldl (toldG u v) z
 | t'::l,z,t,h=>by
  rw [List.foldl_cons]
  rcases List.mem_cons.mp h with e | h
  ·subst e
   refine Nat.le_trans ?_ (toldG_up u v _ l)
   unfold toldG
   omega
  ·exact told_ge u v l _ t h
theorem toldG_hit (t:Krae.Told):(if t.kind=0 then 2 else 1)<=toldG (less t.a t.b) (less t.b t.a) 0 t:=by
 unfold toldG
 simp only [beq_self_eq_true,Bool.and_self,if_true]
 omega
theorem toldG_hit2 (t:Krae.Told) (hk:t.kind=2):1<=toldG (less t.b t.a) (less t.a t.b) 0 t:=by
 unfold toldG
 simp only [hk,decide_true,beq_self_eq_true,Bool.and_self,Bool.true_and,if_true]
 split
 ·split <;> omega
 ·omega
theorem start_told {n:Nat} {l:List Krae.Told} {t:Krae.Told} (h:t ∈ l):(if t.kind=0 then 2 else 1)<=startV n l (less t.a t.b) (less t.b t.a):=by
 refine Nat.le_trans (toldG_hit t) (Nat.le_trans (told_ge (less t.a t.b) (less t.b t.a) l 0 t h) ?_)
 exact Nat.le_max_left _ _
theorem start_told2 {n:Nat} {l:List Krae.Told} {t:Krae.Told} (h:t ∈ l) (hk:t.kind=2):1<=startV n l (less t.b t.a) (less t.a t.b):=by
 refine Nat.le_trans (toldG_hit2 t hk) (Nat.le_trans (told_ge (less t.b t.a) (less t.a t.b) l 0 t h) ?_)
 exact Nat.le_max_left _ _
theorem start_any {n:Nat} {l:List Krae.Told} (u:Nat):1<=startV n l u 0:=by
 unfold startV
 simp only [if_true]
 split <;> omega
theorem start_full {n:Nat} {l:List Krae.Told}:2<=startV n l (2 ^ n - 1) 0:=by
 unfold startV
 have:sets n=2 ^ n:=rfl
 simp only [this,if_true]
 omega
section
variable {n:Nat} (h1:1<=n) (h4:n<=4)
include h1 h4
theorem kok_R1 (l:List Krae.Told):∀ k,k<=2 ^ n->Kok n l (R1 k)
 | 0,_=>⟨fun C _ a _ b _=>by unfold Rv R1 R0;simp,fun u v=>by unfold R1 R0;simp⟩
 | k+1,hk=>by
  have hp:0<2 ^ n:=Nat.pow_pos (by decide)
  rw [R1_succ]
  refine (kok_R1 l k (by omega)).td h1 h4 (by omega) hp (by omega) fun C hC=>?_
  have:=hC.st k (by omega) 0 hp
  rw [less_zero,zero_less] at this
  exact Nat.le_trans (start_any k) this
theorem kok_R2 (l:List Krae.Told):Kok n l (R2 n):=by
 have hp:0<2 ^ n:=Nat.pow_pos (by decide)
 refine (kok_R1 h1 h4 l _ (Nat.le_refl _)).td h1 h4 (by omega) hp (by omega) fun C hC=>?_
 have:=hC.st (2 ^ n - 1) (by omega) 0 hp
 rw [less_zero,zero_less] at this
 exact Nat.le_trans start_full this
theorem kok_tdT {l:List Krae.Told} {R:KR} (k:Kok n l R) {t:Krae.Told} (ht:t ∈ l) (ha:t.a<2 ^ n) (hb:t.b<2 ^ n):Kok n l (tdT R t):=by
 have c1:∀ C,Cl n l C->(if t.kind=0 then 2 else 1)<=C t.a t.b:=fun C hC=>Nat.le_trans (start_told ht) (hC.st t.a ha t.b hb)
 unfold tdT
 split
 ·rename_i hk
  refine Kok.td h1 h4 (k.td h1 h4 ha hb (by omega) fun C hC=>?_) hb ha (by omega) fun C hC=>?_
  ·have:=c1 C hC
   rw [if_neg (by omega)] at this
   exact this
  ·exact Nat.le_trans (start_told2 ht hk) (hC.st t.b hb t.a ha)
 ·exact k.td h1 h4 ha hb (by split <;> omega) c1
theorem kok_R3 {l:List Krae.Told} (hl:∀ t ∈ l,t.a<2 ^ n/\t.b<2 ^ n):Kok n l (R3 n l):=by
 have:∀ (m:List Krae.Told) (R:KR),Kok n l R->(∀ t ∈ m,t ∈ l)->Kok n l (m.foldl tdT R):=by
  intro m
  induction m with
  | nil=>intro R h _;exact h
  | cons t m ih=>
   intro R hR h
   have ht:=h t List.mem_cons_self
   exact ih _ (kok_tdT h1 h4 hR ht (hl t ht).1 (hl t ht).2) fun t' h'=>h t' (List.mem_cons_of_mem _ h')
 exact this l _ (kok_R2 h1 h4 l) fun t h=>h
end
theorem tdT_up (R:KR) (t:Krae.Told) (u v:Nat):R u v<=tdT R t u v:=by
 unfold tdT
 split
 ·exact Nat.le_trans (tdR_up R _ _ _ u v) (tdR_up _ _ _ _ u v)
 ·exact tdR_up R _ _ _ u v
theorem fold_up (u v:Nat):∀ (m:List Krae.Told) (R:KR),R u v<=m.foldl tdT R u v
 | [],R=>Nat.le_refl _
 | t::m,R=>Nat.le_trans (tdT_up R t u v) (fold_up u v m (tdT R t))
theorem tdR_hit (R:KR) (a b lv:Nat):lv<=tdR R a b lv (less a b) (less b a):=by
 unfold tdR
 rw [if_pos ⟨rfl,rfl⟩]
 omega
theorem fold_told (u v:Nat):∀ (m:List Krae.Told) (R:KR) (t:Krae.Told),t ∈ m->toldG u v 0 t<=m.foldl tdT R u v
 | t'::m,R,t,h=>by
  rw [List.foldl_cons]
  rcases List.mem_cons.mp h with e | h
  ·subst e
   refine Nat.le_trans ?_ (fold_up u v m (tdT R t))
   unfold toldG
   rw [Nat.zero_max]
   split
   ·rename_i q
    rw [Bool.and_eq_true,beq_iff_eq,beq_iff_eq] at q
    obtain ⟨rfl,rfl⟩:=q
    unfold tdT
    by_cases hk:t.kind=2
    ·rw [if_pos hk,if_neg (by omega)]
     exact Nat.le_trans (tdR_hit R t.a t.b 1) (tdR_up _ _ _ _ _ _)
    ·rw [if_neg hk]
     exact tdR_hit R t.a t.b _
   ·split
    ·rename_i q
     rw [Bool.and_eq_true,Bool.and_eq_true,decide_eq_true_eq,beq_iff_eq,beq_iff_eq] at q
     obtain ⟨hk,rfl,rfl⟩:=q
     unfold tdT
     rw [if_pos hk]
     exact tdR_hit _ t.b t.a 1
    ·omega
  ·exact fold_told u v m _ t h
theorem toldG_le (u v M:Nat):∀ (m:List Krae.Told) (z:Nat),z<=M->(∀ t ∈ m,toldG u v 0 t<=M)->m.foldl (toldG u v) z<=M
 | [],z,hz,_=>hz
 | t::m,z,hz,h=>by
  rw [List.foldl_cons]
  refine toldG_le u v M m _ ?_ fun t' h'=>h t' (List.mem_cons_of_mem _ h')
  have:=h t List.mem_cons_self
  unfold toldG at this ⊢
  omega
theorem R1_hit:∀ (k u:Nat),u<k->1<=R1 k u 0
 | k+1,u,h=>by
  rw [R1_succ]
  by_cases e:u=k
  ·subst e
   have:=tdR_hit (R1 u) u 0 1
   rw [less_zero,zero_less] at this
   exact this
  ·exact Nat.le_trans (R1_hit k u (by omega)) (tdR_up _ _ _ _ _ _)
theorem start_le {n:Nat} {l:List Krae.Told} {u v:Nat} (hu:u<2 ^ n):startV n l u v<=R3 n l u v:=by
 unfold startV R3
 refine Nat.max_le.mpr ⟨?_,?_⟩
 ·rw [toldAt_fold]
  exact toldG_le u v _ l 0 (Nat.zero_le _) fun t ht=>fold_told u v l _ t ht
 ·refine Nat.le_trans ?_ (fold_up u v l (R2 n))
  split
  ·rename_i hv
   subst hv
   split
   ·rename_i e
    have e:u=2 ^ n - 1:=e
    rw [e]
    have:=tdR_hit (R1 (2 ^ n)) (2 ^ n - 1) 0 2
    rw [less_zero,zero_less] at this
    exact this
   ·exact Nat.le_trans (R1_hit _ u hu) (tdR_up _ _ _ _ _ _)
  ·omega
theorem rules_end {n:Nat} {l:List Krae.Told} {R:KR} (h1:1<=n) (h4:n<=4) (k:Kok n l R) (up:∀ u v,R3 n l u v<=R u v)
  (tr:∀ a,a<2 ^ n->∀ b,b<2 ^ n->Rv R a b ≠ 0->∀ c,c<2 ^ n->Rv R b c ≠ 0->max (Rv R a b) (Rv R b c)<=Rv R a c) {a b:Nat} (ha:a<2 ^ n) (hb:b<2 ^ n):Krae.own n (Krae.relOf n l) a b=Rv R a b:=by
 have B:=bit_all h1 h4
 refine own_eq h1 h4 (R:=Rv R) ⟨fun a ha b hb=>?_,fun a ha b hb=>?_,fun a ha b hb c hc q1 q2=>tr a ha b hb q1 c hc q2⟩ k.low ha hb
 ·unfold Rv
  rw [(B.1 a ha b hb).2.1,(B.1 b hb a ha).2.1]
 ·exact Nat.le_trans (start_le (B.1 a ha b hb).1) (up _ _)
end
end My
namespace My
open PySem PySem.Spec PyProof.Rows L2
def top (i:Nat):Stmt:=PySem.Challenge.pw_wouldrather_s01_answers.main.body.getD i (.Pass ⟨0,0,0,0⟩)
abbrev s_0:Stmt:=top 39
abbrev s_1:Stmt:=top 40
abbrev s_2:Stmt:=inClass (top 43) 0
abbrev s_3:Stmt:=top 44
abbrev s_4:Stmt:=top 45
abbrev s_5:Stmt:=top 46
abbrev s_6:Stmt:=top 47
abbrev s_7:Stmt:=top 48
abbrev s_8:Stmt:=top 49
abbrev s_9:Stmt:=top 50
abbrev s_10:Stmt:=top 51
abbrev s_11:Stmt:=top 52
abbrev s_12:Stmt:=top 56
abbrev s_13:Stmt:=top 57
abbrev s_14:Stmt:=top 58
abbrev s_15:Stmt:=top 59
abbrev s_16:Stmt:=top 60
abbrev s_17:Stmt:=top 61
abbrev s_18:Stmt:=top 62
abbrev s_19:Stmt:=top 63
abbrev s_20:Stmt:=top 64
abbrev s_21:Stmt:=top 65
abbrev s_22:Stmt:=top 67
abbrev s_23:Stmt:=top 68
abbrev s_24:Stmt:=top 69
abbrev s_25:Stmt:=top 70
abbrev s_26:Stmt:=top 72
abbrev s_27:Stmt:=top 73
abbrev s_28:Stmt:=top 74
abbrev s_29:Stmt:=top 75
abbrev s_30:Stmt:=top 76
abbrev s_31:Stmt:=top 78
abbrev s_32:Stmt:=top 79
abbrev s_33:Stmt:=top 80
abbrev s_34:Stmt:=top 81
abbrev s_35:Stmt:=top 82
abbrev s_36:Stmt:=top 83
abbrev s_37:Stmt:=top 84
abbrev s_38:Stmt:=top 85
abbrev s_39:Stmt:=top 86
abbrev s_40:Stmt:=top 88
abbrev s_41:Stmt:=top 89
abbrev s_42:Stmt:=top 91
abbrev s_43:Stmt:=top 92
abbrev s_44:Stmt:=top 93
abbrev s_45:Stmt:=top 94
abbrev s_46:Stmt:=top 95
abbrev s_47:Stmt:=top 98
abbrev s_48:Stmt:=top 99
abbrev s_49:Stmt:=top 100
abbrev s_50:Stmt:=top 101
abbrev s_51:Stmt:=top 103
abbrev s_52:Stmt:=top 104
abbrev s_53:Stmt:=top 105
abbrev s_54:Stmt:=top 106
abbrev s_55:Stmt:=top 107
abbrev s_56:Stmt:=top 108
abbrev s_57:Stmt:=top 109
abbrev s_58:Stmt:=top 110
abbrev s_59:Stmt:=top 111
abbrev s_60:Stmt:=top 112
abbrev s_61:Stmt:=top 113
abbrev s_62:Stmt:=top 114
abbrev s_63:Stmt:=top 119
abbrev s_64:Stmt:=top 120
abbrev s_65:Stmt:=top 121
abbrev s_66:Stmt:=top 122
abbrev s_67:Stmt:=top 123
abbrev s_68:Stmt:=top 124
abbrev s_69:Stmt:=top 125
abbrev s_70:Stmt:=top 126
abbrev s_71:Stmt:=top 127
abbrev s_72:Stmt:=top 128
abbrev s_73:Stmt:=top 129
abbrev s_74:Stmt:=top 130
abbrev s_75:Stmt:=top 131
abbrev s_76:Stmt:=top 132
abbrev s_77:Stmt:=top 137
abbrev s_78:Stmt:=top 138
abbrev s_79:Stmt:=top 139
abbrev s_80:Stmt:=top 140
abbrev s_81:Stmt:=top 141
abbrev s_82:Stmt:=top 142
abbrev s_83:Stmt:=top 143
abbrev s_84:Stmt:=top 145
abbrev s_85:Stmt:=top 146
abbrev s_86:Stmt:=top 147
abbrev s_87:Stmt:=top 148
abbrev s_88:Stmt:=inClass (top 153) 0
abbrev s_89:Stmt:=inClass (top 153) 1
abbrev s_90:Stmt:=inClass (top 153) 2
abbrev s_91:Stmt:=inClass (top 153) 3
abbrev s_92:Stmt:=inClass (top 153) 4
abbrev s_93:Stmt:=inClass (top 153) 5
abbrev s_94:Stmt:=inClass (top 153) 6
abbrev s_95:Stmt:=top 155
def nv (l:List Nat):List V:=l.map fun (n:Nat)=>V.int (n:Int)
theorem nv_ni (l:List Nat):nv l=(ni l).map V.int:=by
 unfold nv ni
 rw [List.map_map]
 rfl
theorem nv_length (l:List Nat):(nv l).length=l.length:=List.length_map ..
theorem nv_append (l m:List Nat):nv (l++m)=nv l++nv m:=List.map_append ..
theorem nv_get {l:List Nat} {i:Nat} {x:V} (h:(nv l)[i]?=some x):∃ n,l[i]?=some n/\x=.int (n:Int):=by
 unfold nv at h
 rw [List.getElem?_map] at h
 cases e:l[i]? with
 | none=>rw [e] at h;cases h
 | some n=>rw [e] at h;exact ⟨n,rfl,(Option.some.inj h).symm⟩
theorem nv_at {l:List Nat} {i:Nat} (h:i<l.length):(nv l)[i]?=some (.int ((l.getD i 0:Nat):Int)):=by
 unfold nv
 rw [List.getElem?_map,List.getD_eq_getElem?_getD,List.getElem?_eq_getElem h]
 rfl
theorem getD_of {l:List Nat} {i n:Nat} (h:l[i]?=some n):l.getD i 0=n:=by
 rw [List.getD_eq_getElem?_getD,h];rfl
abbrev NoZ:Addr->Prop:=fun _=>False
def SameZ (Z:Addr->Prop) (H H':Hp):Prop:=∀ b o,¬ Z b->H b=some o->H' b=some o
theorem _root_.L2.Same.z {H H':Hp} (s:Same H H') (Z:Addr->Prop):SameZ Z H H':=fun b o _ h=>s b o h
theorem _root_.L2.Same.new {H:Hp} {p:Addr} {o:HO} (h:H p=none):Same H (upd H p o):=fun b u e=>by
 rw [upd_ne (ne_of_none e h)];exact e
theorem _root_.L2.Same.put {H H':Hp} {p:Addr} {o:HO} (s:Same H H') (h:H p=none):Same H (upd H' p o):=fun b u e=>by
 rw [upd_ne (ne_of_none e h)];exact s b u e
abbrev Trip:=Nat × Nat × Nat
def trv (t:Trip):List V:=[.int (t.1:Int),.int (t.2.1:Int),.int (t.2.2:Int)]
def TripsAt (Z:Addr->Prop) (H:Hp) (l:Addr) (ts:List Trip):Prop:=¬ Z l/\∃ as:List Addr,H l=some (.lst (as.map V.ref))/\Paired (fun a t=>¬ Z a/\H a=some (.tup (trv t))) as ts
def RowsAt (Z:Addr->Prop) (H:Hp) (l:Addr) (rs:List (List Nat)):Prop:=¬ Z l/\∃ as:List Addr,H l=some (.lst (as.map V.ref))/\Paired (fun a r=>¬ Z a/\H a=some (.lst (nv r))) as rs
theorem Paired_map {α β:Type} {F G:α->β->Prop} {l₁:List α} {l₂:List β} (h:Paired F l₁ l₂) (f:∀ a b,F a b->G a b):Paired G l₁ l₂:=L2.Paired.mapP h f
theorem Paired_get {α β:Type} {F:α->β->Prop}:∀ {l₁:List α} {l₂:List β} {i:Nat} {b:β},Paired F l₁ l₂->l₂[i]?=some b->∃ a,l₁[i]?=some a/\F a b
 | _,_,i,b,.nil,h=>by simp at h
 | _,_,0,b,.cons r t,h=>by simp at h;subst h;exact ⟨_,rfl,r⟩
 | _,_,i+1,b,.cons r t,h=>by
  obtain ⟨a,h1,h2⟩:=Paired_get (i:=i) (b:=b) t (by simpa using h)
  exact ⟨a,by simpa using h1,h2⟩
theorem Paired_snoc {α β:Type} {F:α->β->Prop}:∀ {l₁:List α} {l₂:List β} {a:α} {b:β},Paired F l₁ l₂->F a b->Paired F (l₁++[a]) (l₂++[b])
 | _,_,a,b,.nil,h=>.cons h .nil
 | _,_,a,b,.cons r t,h=>.cons r (Paired_snoc t h)
theorem Paired_append {α β:Type} {F:α->β->Prop}:∀ {l₁ m₁:List α} {l₂ m₂:List β},Paired F l₁ l₂->Paired F m₁ m₂->Paired F (l₁++m₁) (l₂++m₂)
 | _,_,_,_,.nil,h=>h
 | _,_,_,_,.cons r t,h=>.cons r (Paired_append t h)
theorem Paired_take {α β:Type} {F:α->β->Prop}:∀ {l₁:List α} {l₂:List β} (n:Nat),Paired F l₁ l₂->Paired F (l₁.take n) (l₂.take n)
 | _,_,0,_=>.nil
 | _,_,n+1,.nil=>.nil
 | _,_,n+1,.cons r t=>.cons r (Paired_take n t)
theorem Paired_drop {α β:Type} {F:α->β->Prop}:∀ {l₁:List α} {l₂:List β} (n:Nat),Paired F l₁ l₂->Paired F (l₁.drop n) (l₂.drop n)
 | _,_,0,h=>h
 | _,_,n+1,.nil=>.nil
 | _,_,n+1,.cons r t=>Paired_drop n t
theorem Paired_len {α β:Type} {F:α->β->Prop} {l₁:List α} {l₂:List β} (h:Paired F l₁ l₂):l₁.length=l₂.length:=Paired.length h
section
variable {Z:Addr->Prop} {H H':Hp} {l:Addr}
theorem TripsAt.mono {ts:List Trip} (h:TripsAt Z H l ts) (s:SameZ Z H H'):TripsAt Z H' l ts:=by
 obtain ⟨z,as,e,p⟩:=h
 exact ⟨z,as,s _ _ z e,Paired_map p fun a t ⟨z,e⟩=>⟨z,s _ _ z e⟩⟩
theorem RowsAt.mono {ts:List (List Nat)} (h:RowsAt Z H l ts) (s:SameZ Z H H'):RowsAt Z H' l ts:=by
 obtain ⟨z,as,e,p⟩:=h
 exact ⟨z,as,s _ _ z e,Paired_map p fun a t ⟨z,e⟩=>⟨z,s _ _ z e⟩⟩
theorem TripsAt.no {ts:List Trip} (h:TripsAt Z H l ts):TripsAt NoZ H l ts:=by
 obtain ⟨z,as,e,p⟩:=h
 exact ⟨id,as,e,Paired_map p fun a t ⟨z,e⟩=>⟨id,e⟩⟩
theorem RowsAt.no {ts:List (List Nat)} (h:RowsAt Z H l ts):RowsAt NoZ H l ts:=by
 obtain ⟨z,as,e,p⟩:=h
 exact ⟨id,as,e,Paired_map p fun a t ⟨z,e⟩=>⟨id,e⟩⟩
end
def likes (b:Krag.Book):List Trip:=b.worlds.told.map fun t=>(t.kind,t.a,t.b)
def rathers (b:Krag.Book):List Trip:=b.rather.map fun t=>(t.kind,t.a,t.b)
structure BookOk (b:Krag.Book):Prop where
 n1:1<=b.n
 n4:b.n<=4
 p1:1<=b.prizes
 p4:b.prizes<=4
 l4:b.worlds.told.length<=4
 lk:∀ t ∈ b.worlds.told,t.kind<=2/\t.a<2 ^ b.n/\t.b<2 ^ b.n
 o5:b.lots.length<=5
 lt:∀ l ∈ b.lots,l.length=b.n/\∀ p ∈ l,p<b.prizes
 r5:b.rather.length<=5
 rt:∀ t ∈ b.rather,t.kind<=2/\t.a<b.lots.length/\t.b<b.lots.length
def toldF (n p:Nat) (l1 l2 l3:Addr):List (Str × V):=[("worlds",.int (n:Int)),("prizes",.int (p:Int)),("likelier",.ref l1),("lots",.ref l2),("rather",.ref l3)]
structure ToldAt (Z:Addr->Prop) (C:Addr) (H:Hp) (a:Addr) (b:Krag.Book):Prop where
 z:¬ Z a
 ok:BookOk b
 at_:∃ dx l1 l2 l3,H a=some (.ins C dx (toldF b.n b.prizes l1 l2 l3))/\TripsAt Z H l1 (likes b)/\RowsAt Z H l2 b.lots/\TripsAt Z H l3 (rathers b)
theorem ToldAt.monoZ {Z:Addr->Prop} {C:Addr} {H H':Hp} {a:Addr} {b:Krag.Book} (h:ToldAt Z C H a b) (s:SameZ Z H H'):ToldAt Z C H' a b:=by
 obtain ⟨z,ok,dx,l1,l2,l3,e,t1,t2,t3⟩:=h
 exact ⟨z,ok,dx,l1,l2,l3,s _ _ z e,t1.mono s,t2.mono s,t3.mono s⟩
theorem ToldAt.mono {Z:Addr->Prop} {C:Addr} {H H':Hp} {a:Addr} {b:Krag.Book} (h:ToldAt Z C H a b) (s:Same H H'):ToldAt Z C H' a b:=h.monoZ (s.z Z)
theorem ToldAt.no {Z:Addr->Prop} {C:Addr} {H:Hp} {a:Addr} {b:Krag.Book} (h:ToldAt Z C H a b):ToldAt NoZ C H a b:=by
 obtain ⟨z,ok,dx,l1,l2,l3,e,t1,t2,t3⟩:=h
 exact ⟨id,ok,dx,l1,l2,l3,e,t1.no,t2.no,t3.no⟩
structure Txt (K:PySem.W.Frag) (mg:Str->Option Value) (CT CS:Addr):Prop where
 clT:Cls K CT
 nW:NoAttr K CT "worlds"
 nP:NoAttr K CT "prizes"
 nK:NoAttr K CT "likelier"
 nL:NoAttr K CT "lots"
 nR:NoAttr K CT "rather"
 clS:Cls K CS
 nT:NoAttr K CS "told"
 nB:NoAttr K CS "before"
 nH:NoAttr K CS "behind"
 b_len:mg "len"=none
 b_sum:mg "sum"=none
 b_min:mg "min"=none
 b_max:mg "max"=none
 b_all:mg "all"=none
 b_any:mg "any"=none
 b_list:mg "list"=none
 b_range:mg "range"=none
 b_enumerate:mg "enumerate"=none
 b_zip:mg "zip"=none
 c_BEGIN:∃ t,mg "BEGIN"=some (.int 0 t)
 c_LIKELIER:∃ t,mg "LIKELIER"=some (.int 1 t)
 c_UNLIKELIER:∃ t,mg "UNLIKELIER"=some (.int 2 t)
 c_LOT:∃ t,mg "LOT"=some (.int 3 t)
 c_UNLOT:∃ t,mg "UNLOT"=some (.int 4 t)
 c_PRIZE:∃ t,mg "PRIZE"=some (.int 5 t)
 c_RATHER:∃ t,mg "RATHER"=some (.int 6 t)
 c_UNRATHER:∃ t,mg "UNRATHER"=some (.int 7 t)
 c_BACK:∃ t,mg "BACK"=some (.int 8 t)
 c_AGAIN:∃ t,mg "AGAIN"=some (.int 9 t)
 c_CHANCES:∃ t,mg "CHANCES"=some (.int 10 t)
 c_WAYS:∃ t,mg "WAYS"=some (.int 11 t)
 c_LEAST:∃ t,mg "LEAST"=some (.int 12 t)
 c_FITS:∃ t,mg "FITS"=some (.int 13 t)
 c_WORTH:∃ t,mg "WORTH"=some (.int 14 t)
 c_MORE:∃ t,mg "MORE"=some (.int 15 t)
 c_MAY:∃ t,mg "MAY"=some (.int 16 t)
 c_INEACH:∃ t,mg "INEACH"=some (.int 17 t)
 c_BEST:∃ t,mg "BEST"=some (.int 18 t)
 c_MAYBEST:∃ t,mg "MAYBEST"=some (.int 19 t)
 c_PRIZES:∃ t,mg "PRIZES"=some (.int 20 t)
 c_LEARN:∃ t,mg "LEARN"=some (.int 21 t)
 c_LEARNALL:∃ t,mg "LEARNALL"=some (.int 22 t)
 c_CLASHES:∃ t,mg "CLASHES"=some (.int 23 t)
 c_SPARE:∃ t,mg "SPARE"=some (.int 24 t)
 c_WRONG:∃ t,mg "WRONG"=some (.int 25 t)
 c_SIDE:∃ t,mg "SIDE"=some (.int 26 t)
 c_RULES:∃ t,mg "RULES"=some (.int 27 t)
 c_LOOK:∃ t,mg "LOOK"=some (.int 28 t)
 c_STATE:∃ t,mg "STATE"=some (.int 30 t)
 c_NONE_SUCH:∃ t,mg "NONE_SUCH"=some (.int (-2) t)
 c_NOTHING_THERE:∃ t,mg "NOTHING_THERE"=some (.int (-6) t)
 c_BEFORE_BEGIN:∃ t,mg "BEFORE_BEGIN"=some (.int (-11) t)
 c_NOT_RIGHT:∃ t,mg "NOT_RIGHT"=some (.int (-22) t)
 c_TOO_MANY:∃ t,mg "TOO_MANY"=some (.int (-28) t)
 c_NO_NUMBERS:∃ t,mg "NO_NUMBERS"=some (.int (-33) t)
 c_NO_CHANCES:∃ t,mg "NO_CHANCES"=some (.int (-61) t)
 c_LAST_KIND:∃ t,mg "LAST_KIND"=some (.int 2 t)
 c_LEAST_NUMBER:∃ t,mg "LEAST_NUMBER"=some (.int 1 t)
 c_GREATEST_NUMBER:∃ t,mg "GREATEST_NUMBER"=some (.int 8 t)
 c_MOST_TOGETHER:∃ t,mg "MOST_TOGETHER"=some (.int 10 t)
 c_MOST_LIKELIER:∃ t,mg "MOST_LIKELIER"=some (.int 4 t)
 c_MOST_LOTS:∃ t,mg "MOST_LOTS"=some (.int 5 t)
 c_MOST_RATHER:∃ t,mg "MOST_RATHER"=some (.int 5 t)
 c_NOTHING:∃ t,mg "NOTHING"=some (.int 0 t)
 c_NO_LESS_LIKELY:∃ t,mg "NO_LESS_LIKELY"=some (.int 1 t)
 c_IS_LIKELIER:∃ t,mg "IS_LIKELIER"=some (.int 2 t)
 c_MOST_WORLDS:∃ t,mg "MOST_WORLDS"=some (.int 4 t)
 c_MOST_PRIZES:∃ t,mg "MOST_PRIZES"=some (.int 4 t)
 c_MOST_KEPT:∃ t,mg "MOST_KEPT"=some (.int 20 t)
 m_COUNTS:∃ a,mg "COUNTS"=some (.ref a)/\∀ H,SqT K H a (nv counts)
structure Callee (P:Program) (w:World) (K:PySem.W.Frag) (mg:Str->Option Value) (base:Heap) (x:Str) (k:Nat) (ps:List Str) (sp:Sp):Prop where
 ex:∃ (f:Addr) (fd:FuncData),FnOk P w K mg base CX0 k f fd ps sp/\Binds K fd ps []/\mg x=some (.ref f)/\PySem.W.keepIn K (.ref f)=true
structure Method (P:Program) (w:World) (K:PySem.W.Frag) (mg:Str->Option Value) (base:Heap) (C:Addr) (x:Str) (k:Nat) (ps:List Str) (sp:Sp):Prop where
 ex:∃ (f:Addr) (fd:FuncData),FnOk P w K mg base CX0 k f fd ps sp/\Binds K fd ps []/\Meth K C x f
structure Maker (P:Program) (w:World) (K:PySem.W.Frag) (mg:Str->Option Value) (base:Heap) (C:Addr) (x:Str) (k:Nat) (ps:List Str) (sp:Sp):Prop where
 ex:∃ (f:Addr) (fd:FuncData),FnOk P w K mg base CX0 k f fd ps sp/\Binds K fd ps []/\Mk K C f/\mg x=some (.ref C)
section
variable {X:Cx} {x:Str} {k:Nat} {ps:List Str} {sp:Sp} {p pos apos:Pos} {e o:Expr} {es:List Expr} {t:TA} {ta:TE} {C CT CS:Addr}
theorem pe_fn (c:Callee X.prog X.w X.K X.mg X.base x k ps sp) (hr:Room k X.A) (ha:PA X (e::es) t) (hg:Gl X x:=by rfl) (hdb:(x==("__debug__":Str))=false:=by decide)
  (he:starEach (e::es) X.env=(false,eval e X.env)::starEach es X.env:=by rfl) (hpl:(backTo pos (starEach es X.env)).any (·.1)=false:=by rfl):PE X (.Call (.Name x p) (e::es) [] pos) (tCall sp [] E0 t):=by
 obtain ⟨f,fd,F,b,m,kp⟩:=c.ex
 exact pe_call F hr hg m kp b .nil pass0 ha hdb he hpl
theorem pe_mt {pl:Sem Bool} (cl:Cls X.K C) (c:Method X.prog X.w X.K X.mg X.base C x k ps sp) (hr:Room k X.A) (ho:PE X o ta) (ha:PA X (e::es) t)
  (hst:starEach (e::es) X.env=(false,eval e X.env)::starEach es X.env:=by rfl) (hpl:(backTo pos (starEach es X.env)).any (·.1)=false:=by rfl)
  (ht:eval (.Call (.Attribute o x apos) (e::es) [] pos) X.env=(do
   let ov <-eval o X.env
   standAt apos.atName
   let (f,first) <-holding [ov] (getMethod ov x pl)
   callWith pos f first (backTo pos (starEach (e::es) X.env)) (backToKw pos (keywordEach [] X.env))):=by rfl) :
  PE X (.Call (.Attribute o x apos) (e::es) [] pos) (tMeth C x sp [] E0 ta t):=by
 obtain ⟨f,fd,F,b,m⟩:=c.ex
 exact pe_meth (pl:=pl) ho cl m F hr b .nil pass0 ha hst hpl ht
theorem pe_mt0 {pl:Sem Bool} (cl:Cls X.K C) (c:Method X.prog X.w X.K X.mg X.base C x k ps sp) (hr:Room k X.A) (ho:PE X o ta)
  (ht:eval (.Call (.Attribute o x apos) [] [] pos) X.env=(do
   let ov <-eval o X.env
   standAt apos.atName
   let (f,first) <-holding [ov] (getMethod ov x pl)
   callWith pos f first (backTo pos (starEach [] X.env)) (backToKw pos (keywordEach [] X.env))):=by rfl) :
  PE X (.Call (.Attribute o x apos) [] [] pos) (tMeth C x sp [] E0 ta tNil):=by
 obtain ⟨f,fd,F,b,m⟩:=c.ex
 exact pe_meth0 (pl:=pl) ho cl m F hr b .nil pass0 ht
theorem pe_mk (c:Maker X.prog X.w X.K X.mg X.base C x k ps sp) (hr:Room (k+1) X.A) (ha:PA X (e::es) t) (hg:Gl X x:=by rfl) (hdb:(x==("__debug__":Str))=false:=by decide)
  (he:starEach (e::es) X.env=(false,eval e X.env)::starEach es X.env:=by rfl) (hpl:(backTo pos (starEach es X.env)).any (·.1)=false:=by rfl):PE X (.Call (.Name x p) (e::es) [] pos) (tMake C sp [] E0 t):=by
 obtain ⟨f,fd,F,b,M,m⟩:=c.ex
 exact pe_make M F hr hg m b .nil pass0 ha hdb he hpl
theorem pe_mk0 (c:Maker X.prog X.w X.K X.mg X.base C x k ps sp) (hr:Room (k+1) X.A) (hg:Gl X x:=by rfl) (hdb:(x==("__debug__":Str))=false:=by decide):PE X (.Call (.Name x p) [] [] pos) (tMake C sp [] E0 tNil):=by
 obtain ⟨f,fd,F,b,M,m⟩:=c.ex
 exact pe_make0 M F hr hg m b .nil pass0 hdb
theorem pe_gi {i:Int} (h:∃ t,X.mg x=some (.int i t)) (hg:Gl X x:=by rfl) (hd:(x==("__debug__":Str))=false:=by decide):PE X (.Name x pos) (tC (.int i)):=by
 obtain ⟨t,h⟩:=h
 exact pe_glob hg h ⟨t,rfl⟩ hd
def tG (φ:Addr->Prop):TE:=fun _ H Q=>∀ a,φ a->Q (.ref a) H
theorem pe_gr {φ:Addr->Prop} (h:∃ a,X.mg x=some (.ref a)/\φ a) (hg:Gl X x:=by rfl) (hd:(x==("__debug__":Str))=false:=by decide):PE X (.Name x pos) (tG φ):=by
 obtain ⟨a,h,q⟩:=h
 intro pins s σ H Q I hq
 exact pe_glob (v:=.ref a) hg h rfl hd pins s σ H Q I (hq a q)
def tTW (CT:Addr) (ta:TE):TE:=fun σ H Q=>ta σ H fun x H1=>∃ Z a b,x=.ref a/\ToldAt Z CT H1 a b/\Q (.int (b.n:Int)) H1
def tTP (CT:Addr) (ta:TE):TE:=fun σ H Q=>ta σ H fun x H1=>∃ Z a b,x=.ref a/\ToldAt Z CT H1 a b/\Q (.int (b.prizes:Int)) H1
def tTK (CT:Addr) (ta:TE):TE:=fun σ H Q=>ta σ H fun x H1=>∃ Z a b H0,x=.ref a/\ToldAt Z CT H0 a b/\Same H0 H1/\∀ l,TripsAt Z H0 l (likes b)->Q (.ref l) H1
def tTL (CT:Addr) (ta:TE):TE:=fun σ H Q=>ta σ H fun x H1=>∃ Z a b H0,x=.ref a/\ToldAt Z CT H0 a b/\Same H0 H1/\∀ l,RowsAt Z H0 l b.lots->Q (.ref l) H1
def tTR (CT:Addr) (ta:TE):TE:=fun σ H Q=>ta σ H fun x H1=>∃ Z a b H0,x=.ref a/\ToldAt Z CT H0 a b/\Same H0 H1/\∀ l,TripsAt Z H0 l (rathers b)->Q (.ref l) H1
theorem mono_ta {X:Cx} {e:Expr} {t u:TE} (h:PE X e t) (i:∀ σ H Q,u σ H Q->t σ H Q):PE X e u:=fun pins s σ H Q I q=>h pins s σ H Q I (i σ H Q q)
def Mono (t:TE):Prop:=∀ σ H Q Q',(∀ v H',Q v H'->Q' v H')->t σ H Q->t σ H Q'
theorem pe_fldw {K:PySem.W.Frag} {f:Str} {u:TE} (he:PE X e ta) (hb:attributeBase e f X.env (eval e X.env)=eval e X.env) (φ:V->Hp->VK->Prop)
  (hφ:∀ x H1 Q,φ x H1 Q->∃ a C dx fs v,x=.ref a/\H1 a=some (.ins C dx fs)/\Cls X.K C/\NoAttr X.K C f/\fs.lookup f=some v/\Q v H1) :
  PE X (.Attribute e f pos) (fun σ H Q=>ta σ H fun x H1=>φ x H1 Q):=by
 intro pins s σ H Q I h
 refine attr_of hb (thn (he pins s σ H _ I h) fun u s1 ⟨x,H1,I1,rx,q0⟩=>?_)
 obtain ⟨a,C,dx,fs,v,ex,ea,c,n,l,q⟩:=hφ x H1 Q q0
 subst ex
 obtain rfl:u=Value.ref a:=rx
 exact getattr_ok I1 ea c n l fun u' s2 I2 ru=>⟨v,H1,I2,ru,q⟩
theorem pe_worlds (T:Txt X.K X.mg CT CS) (he:PE X e ta) (hb:attributeBase e "worlds" X.env (eval e X.env)=eval e X.env:=by rfl):PE X (.Attribute e "worlds" pos) (tTW CT ta):=
 pe_fldw (K:=X.K) (u:=ta) he hb _ fun x H1 Q ⟨Z,a,b,ex,h,q⟩=>by
  obtain ⟨z,ok,dx,l1,l2,l3,e1,_⟩:=h
  exact ⟨a,CT,dx,_,_,ex,e1,T.clT,T.nW,rfl,q⟩
theorem pe_prizes (T:Txt X.K X.mg CT CS) (he:PE X e ta) (hb:attributeBase e "prizes" X.env (eval e X.env)=eval e X.env:=by rfl):PE X (.Attribute e "prizes" pos) (tTP CT ta):=
 pe_fldw (K:=X.K) (u:=ta) he hb _ fun x H1 Q ⟨Z,a,b,ex,h,q⟩=>by
  obtain ⟨z,ok,dx,l1,l2,l3,e1,_⟩:=h
  exact ⟨a,CT,dx,_,_,ex,e1,T.clT,T.nP,rfl,q⟩
theorem pe_likelier (T:Txt X.K X.mg CT CS) (he:PE X e ta) (hb:attributeBase e "likelier" X.env (eval e X.env)=eval e X.env:=by rfl):PE X (.Attribute e "likelier" pos) (tTK CT ta):=
 pe_fldw (K:=X.K) (u:=ta) he hb _ fun x H1 Q ⟨Z,a,b,H0,ex,h,sm,q⟩=>by
  obtain ⟨z,ok,dx,l1,l2,l3,e1,t1,t2,t3⟩:=h
  exact ⟨a,CT,dx,_,_,ex,sm _ _ e1,T.clT,T.nK,rfl,q _ t1⟩
theorem pe_lots (T:Txt X.K X.mg CT CS) (he:PE X e ta) (hb:attributeBase e "lots" X.env (eval e X.env)=eval e X.env:=by rfl):PE X (.Attribute e "lots" pos) (tTL CT ta):=
 pe_fldw (K:=X.K) (u:=ta) he hb _ fun x H1 Q ⟨Z,a,b,H0,ex,h,sm,q⟩=>by
  obtain ⟨z,ok,dx,l1,l2,l3,e1,t1,t2,t3⟩:=h
  exact ⟨a,CT,dx,_,_,ex,sm _ _ e1,T.clT,T.nL,rfl,q _ t2⟩
theorem pe_rather (T:Txt X.K X.mg CT CS) (he:PE X e ta) (hb:attributeBase e "rather" X.env (eval e X.env)=eval e X.env:=by rfl):PE X (.Attribute e "rather" pos) (tTR CT ta):=
 pe_fldw (K:=X.K) (u:=ta) he hb _ fun x H1 Q ⟨Z,a,b,H0,ex,h,sm,q⟩=>by
  obtain ⟨z,ok,dx,l1,l2,l3,e1,t1,t2,t3⟩:=h
  exact ⟨a,CT,dx,_,_,ex,sm _ _ e1,T.clT,T.nR,rfl,q _ t3⟩
end
def LoopW (J:It) (g:TG) (tb:TS) (D:Ends) (σ:L2.St) (H:Hp):Prop:=∃ W:Nat->Nat->L2.St->Hp->Prop,(∃ m,W 0 m σ H)/\∀ i m σ H,W i m σ H ->
 (J.stop i H/\D.nx σ H)\/(J.go i H/\∃ N:L2.St->Hp->Prop,(∀ σ' H',N σ' H'->∃ m',m'<m/\W (i+1) m' σ' H')/\∀ x H',J.yld i H x H'->g x σ H' fun σ2 H2=>tb { D with nx:=N,ct:=N,bk:=D.nx } σ2 H2)
theorem tFor_eq (wi:TI) (g:TG) (tb:TS):tFor wi g tb=fun D σ H=>wi σ H fun J H1=>LoopW J g tb D σ H1:=rfl
def CompW (J:It) (g:TG) (tt:TT) (te:TE) (vs:List Nat) (σ:L2.St) (D:Addr) (Q:VK) (H0:Hp):Prop:=∃ W:Nat->Nat->Hp->Prop,(∃ m,W 0 m H0)/\∀ i m H,W i m H ->
 (J.stop i H/\Q (.ref D) H)\/(J.go i H/\∃ Nx:Hp->Prop,(∀ H',Nx H'->∃ m',m'<m/\W (i+1) m' H')/\∀ x H',J.yld i H x H'->g x (wipe σ vs) H' fun σ2 H2=>wipe σ2 vs=wipe σ vs/\tt σ2 H2 fun b H3=>
  if b=true then te σ2 H3 fun y H4=>∃ acc,H4 D=some (.lst acc)/\acc.length<sizeLine/\Nx (upd H4 D (.lst (acc++[y]))) else Nx H3)
theorem tLc_eq (wi:TI) (g:TG) (tt:TT) (te:TE) (vs:List Nat):tLc wi g tt te vs=fun σ H Q=>wi σ H fun J H1=>∀ D,H1 D=none->CompW J g tt te vs σ D Q (upd H1 D (.lst [])):=rfl
section
variable {CX:CXT} {P:Program} {w:World} {K:PySem.W.Frag} {mg:Str->Option Value} {base:Heap} {N:List Str} {qual:Str} {scope:Scope} {f:Addr} {cd:Value} {A:Around} {outer:List Env} {s:Shared} {H:Hp} {E:XK}
theorem cx_K:(cxOf CX P w K mg base N qual scope f cd A outer s H E).K=K:=rfl
theorem cx_mg:(cxOf CX P w K mg base N qual scope f cd A outer s H E).mg=mg:=rfl
theorem cx_A:(cxOf CX P w K mg base N qual scope f cd A outer s H E).A=A.deeper (envOfC qual scope s.heap.objs.size f cd):=rfl
theorem bk_K {X:Cx} {s:Shared} {H:Hp} {scope:Scope} {cenv:Env} {fp:List Addr}:(X.blk s H scope cenv fp).K=X.K:=rfl
end
section
variable {X:Cx} {K:PySem.W.Frag} {pos:Pos}
theorem ix_listB (h:X.K=K):IxR X (rIxL K):=h ▸ ix_list
theorem ix_tupB (h:X.K=K):IxR X (rIxT K):=h ▸ ix_tup
theorem pg_tupB {es:List Expr} {k:Nat} {t:TGs} {n:Nat} (hK:X.K=K) (hc:X.calm=true) (h:PGs X es t)
  (hn:(assignEach es X.env).length=n:=by rfl) (hst:(assignEach es X.env).findIdx? (·.1)=none:=by rfl):PG X (.Tuple es k pos) (gTup K n t):=hK ▸ pg_tup hc h hn hst
theorem call_len_seqB (h:X.K=K):CallR X (.builtin "len") (fun xs H Q=>∃ p ys,xs=[.ref p]/\(SqL K H p ys\/SqT K H p ys)/\Q (.int ys.length) H):=h ▸ call_len_seq
end
structure Yields (J:It) (H1:Hp) (n:Nat) (Y:Nat->V->Hp->Prop):Prop where
 go:∀ i H,i<n->Same H1 H->J.go i H
 stop:∀ H,Same H1 H->J.stop n H
 yld:∀ i H x H',i<n->Same H1 H->J.yld i H x H'->Same H H'/\Y i x H'
theorem yl_list {K:PySem.W.Frag} {H1:Hp} {a:Addr} {xs:List V} (h:SqL K H1 a xs):Yields (Itl K a) H1 xs.length (fun i x _=>xs[i]?=some x):=
 ⟨fun i H hi s=>⟨xs,xs[i],s.seq h,by simp [hi]⟩,fun H s=>⟨xs,s.seq h,Nat.le_refl _⟩,fun i H x H' hi s y=>by
  obtain ⟨e,y⟩:=y
  subst e
  exact ⟨Same.refl _,y xs (s.seq h)⟩⟩
theorem _root_.L2.Same.seqT {K:PySem.W.Frag} {H H':Hp} {a:Addr} {xs:List V} (e:Same H H') (h:SqT K H a xs):SqT K H' a xs:=by
 rcases h with (h | ⟨o,h⟩) | h
 ·exact .inl (.inl (e _ _ h))
 ·exact .inl (.inr ⟨o,e _ _ h⟩)
 ·exact .inr h
theorem yl_tup {K:PySem.W.Frag} {H1:Hp} {a:Addr} {xs:List V} (h:SqT K H1 a xs):Yields (Itt K a) H1 xs.length (fun i x _=>xs[i]?=some x):=
 ⟨fun i H hi s=>⟨xs,xs[i],s.seqT h,by simp [hi]⟩,fun H s=>⟨xs,s.seqT h,Nat.le_refl _⟩,fun i H x H' hi s y=>by
  obtain ⟨e,y⟩:=y
  subst e
  exact ⟨Same.refl _,y xs (s.seqT h)⟩⟩
theorem yl_range {H1:Hp} (lo:Int) (n:Nat):Yields (Itr lo n) H1 n (fun i x _=>x=.int (lo+i)):=
 ⟨fun i H hi s=>hi,fun H s=>Nat.le_refl _,fun i H x H' hi s y=>by
  obtain ⟨e,y⟩:=y
  subst e
  exact ⟨Same.refl _,y⟩⟩
theorem yl_enum {K:PySem.W.Frag} {H1:Hp} {a:Addr} {xs:List V} (h:SqL K H1 a xs):Yields (Ite K a) H1 xs.length (fun i x H'=>∃ T y,x=.ref T/\H' T=some (.tup [.int (i:Nat),y])/\xs[i]?=some y):=
 ⟨fun i H hi s=>⟨xs,xs[i],s.seq h,by simp [hi]⟩,fun H s=>⟨xs,s.seq h,Nat.le_refl _⟩,fun i H x H' hi s y=>by
  obtain ⟨T,y,e,hn,e2,k⟩:=y
  subst e e2
  exact ⟨Same.new hn,T,y,rfl,upd_same,k xs (s.seq h)⟩⟩
theorem yl_zip {K:PySem.W.Frag} {H1:Hp} {a b:Addr} {xs ys:List V} (h:SqL K H1 a xs) (h':SqL K H1 b ys) (hl:xs.length=ys.length):Yields (Itz K a b) H1 xs.length (fun i x H'=>∃ T y z,x=.ref T/\H' T=some (.tup [y,z])/\xs[i]?=some y/\ys[i]?=some z):=
 ⟨fun i H hi s=>⟨xs,ys,xs[i],ys[i],s.seq h,s.seq h',by simp [hi],by simp [<-hl,hi]⟩,fun H s=>⟨xs,ys,s.seq h,s.seq h',.inl (Nat.le_refl _)⟩,fun i H x H' hi s y=>by
  obtain ⟨T,y,z,e,hn,e2,k,k'⟩:=y
  subst e e2
  exact ⟨Same.new hn,T,y,z,rfl,upd_same,k xs (s.seq h),k' ys (s.seq h')⟩⟩
theorem yl_keys {H1:Hp} {d:Addr} {o:Obj} {kvs:List (Key × V)} (h:H1 d=some (.frz o (.dK kvs))):Yields (Itk d o kvs) H1 kvs.length (fun i x _=>∃ k v,kvs[i]?=some (k,v)/\x=kV k):=
 ⟨fun i H hi s=>⟨s _ _ h,hi⟩,fun H s=>⟨s _ _ h,Nat.le_refl _⟩,fun i H x H' hi s y=>by
  obtain ⟨e,y⟩:=y
  subst e
  exact ⟨Same.refl _,y⟩⟩
def NX (H1:Hp) (D:Addr) (out:Nat->List V) (n i:Nat) (H:Hp):Prop:=i+1<=n/\Same H1 H/\H D=some (.lst (out (i+1)))
def Yes (H1:Hp) (D:Addr) (out:Nat->List V) (n i:Nat) (y:V) (H4:Hp):Prop:=∃ acc,H4 D=some (.lst acc)/\acc.length<sizeLine/\NX H1 D out n i (upd H4 D (.lst (acc++[y])))
structure AtT (H1:Hp) (D:Addr) (out:Nat->List V) (n i:Nat) (H:Hp):Prop where
 new:H1 D=none
 lt:i<n
 same:Same H1 H
 at_:H D=some (.lst (out i))
 len:(out i).length<sizeLine
section
variable {H1 H H4:Hp} {D:Addr} {out:Nat->List V} {n i:Nat} {y:V}
theorem AtT.yes (a:AtT H1 D out n i H) (s:Same H H4) (o:out (i+1)=out i++[y]):Yes H1 D out n i y H4:=
 ⟨out i,s _ _ a.at_,a.len,a.lt,(a.same.trans s).put a.new,by rw [upd_same,o]⟩
theorem AtT.no (a:AtT H1 D out n i H) (s:Same H H4) (o:out (i+1)=out i):NX H1 D out n i H4:=⟨a.lt,a.same.trans s,by rw [o];exact s _ _ a.at_⟩
end
theorem comp_of {J:It} {g:TG} {tt:TT} {te:TE} {vs:List Nat} {σ:L2.St} {D:Addr} {Q:VK} {H1:Hp} {n:Nat} {Y:Nat->V->Hp->Prop} (y:Yields J H1 n Y) (hD:H1 D=none) (out:Nat->List V) (h0:out 0=[]) (hlen:∀ i,i<n->(out i).length<sizeLine)
  (turn:∀ i H x,AtT H1 D out n i H->Y i x H->g x (wipe σ vs) H fun σ2 H2=>wipe σ2 vs=wipe σ vs/\tt σ2 H2 fun b H3=>if b=true then te σ2 H3 fun y H4=>Yes H1 D out n i y H4 else NX H1 D out n i H3)
  (done:∀ H,Same H1 H->H D=some (.lst (out n))->Q (.ref D) H):CompW J g tt te vs σ D Q (upd H1 D (.lst [])):=by
 refine ⟨fun i m H=>m=n - i/\i<=n/\Same H1 H/\H D=some (.lst (out i)),⟨n,by simp,Nat.zero_le _,Same.new hD,by rw [upd_same,h0]⟩,?_⟩
 rintro i m H ⟨rfl,hi,s,e⟩
 by_cases hlt:i<n
 ·refine .inr ⟨y.go i H hlt s,NX H1 D out n i,fun H' ⟨h1,h2,h3⟩=>⟨n - (i+1),by omega,rfl,h1,h2,h3⟩,fun x H' hy=>?_⟩
  obtain ⟨s2,hY⟩:=y.yld i H x H' hlt s hy
  exact turn i H' x ⟨hD,hlt,s.trans s2,s2 _ _ e,hlen i hlt⟩ hY
 ·have e2:i=n:=by omega
  subst e2
  exact .inl ⟨y.stop H s,done H s e⟩
theorem loop_of {J:It} {g:TG} {tb:TS} {D:Ends} {σ:L2.St} {H0 H1:Hp} {n:Nat} {Y:Nat->V->Hp->Prop} (y:Yields J H1 n Y) (Pv:Nat->L2.St->Hp->Prop) (hs:∀ i σ H,Pv i σ H->Same H1 H) (h0:Pv 0 σ H0)
  (mono:∀ i σ H H',Pv i σ H->Same H H'->Pv i σ H')
  (turn:∀ i σ H x,i<n->Pv i σ H->Y i x H->g x σ H fun σ2 H2=>tb { D with nx:=Pv (i+1),ct:=Pv (i+1),bk:=D.nx } σ2 H2)
  (done:∀ σ H,Pv n σ H->D.nx σ H):LoopW J g tb D σ H0:=by
 refine ⟨fun i m σ H=>m=n - i/\i<=n/\Pv i σ H,⟨n,by simp,Nat.zero_le _,h0⟩,?_⟩
 rintro i m σ H ⟨rfl,hi,p⟩
 by_cases hlt:i<n
 ·refine .inr ⟨y.go i H hlt (hs _ _ _ p),Pv (i+1),fun σ' H' p'=>⟨n - (i+1),by omega,rfl,hlt,p'⟩,fun x H' hy=>?_⟩
  obtain ⟨s2,hY⟩:=y.yld i H x H' hlt (hs _ _ _ p) hy
  exact turn i σ H' x hlt (mono _ _ _ _ p s2) hY
 ·have e:i=n:=by omega
  subst e
  exact .inl ⟨y.stop H (hs _ _ _ p),done σ H p⟩
theorem gtup_of {K:PySem.W.Frag} {n:Nat} {t:TGs} {a:Addr} {xs:List V} {σ:L2.St} {H:Hp} {Q:L2.St->Hp->Prop} (h:H a=some (.tup xs)) (hl:xs.length=n) (q:t xs σ H Q):gTup K n t (.ref a) σ H Q:=⟨a,xs,rfl,SqT.of h,hl,q⟩
theorem sml {n:Nat} (h:n<=1000000):n<sizeLine:=Nat.lt_of_le_of_lt h (by decide)
theorem sml' {n:Nat} (h:n<=1000000):n<=sizeLine:=Nat.le_of_lt (sml h)
theorem take_snoc {α:Type}:∀ {l:List α} {i:Nat} {x:α},l[i]?=some x->l.take (i+1)=l.take i++[x]
 | [],i,x,h=>by simp at h
 | a::l,0,x,h=>by
  have e:a=x:=Option.some.inj h
  subst e
  rfl
 | a::l,i+1,x,h=>by
  have ih:=take_snoc (l:=l) (i:=i) (x:=x) h
  show a::l.take (i+1)=a::l.take i++[x]
  rw [ih]
  rfl
theorem nv_snoc (l:List Nat) (n:Nat):nv (l++[n])=nv l++[V.int (n:Int)]:=nv_append l [n]
theorem lt_of_get {α:Type} {l:List α} {i:Nat} {x:α} (h:l[i]?=some x):i<l.length:=(List.getElem?_eq_some_iff.mp h).1
theorem ite_mono {c:Prop} [Decidable c] {A B A' B':Prop} (h1:A->A') (h2:B->B') (h:if c then A else B):if c then A' else B':=by
 by_cases hc:c
 ·rw [if_pos hc] at h ⊢;exact h1 h
 ·rw [if_neg hc] at h ⊢;exact h2 h
def SameD (D:Addr) (H H':Hp):Prop:=∀ b o,b ≠ D->H b=some o->H' b=some o
structure AtE (H1:Hp) (D:Addr) (Pv:Nat->List V->Hp->Prop) (n i:Nat) (acc:List V) (H:Hp):Prop where
 new:H1 D=none
 lt:i<n
 same:Same H1 H
 at_:H D=some (.lst acc)
 len:acc.length<sizeLine
 pv:Pv i acc H
 mono:∀ i acc H H',Pv i acc H->SameD D H H'->Pv i acc H'
def NE (H1:Hp) (D:Addr) (Pv:Nat->List V->Hp->Prop) (n i:Nat) (H:Hp):Prop:=i+1<=n/\Same H1 H/\∃ acc,H D=some (.lst acc)/\Pv (i+1) acc H
def YesE (H1:Hp) (D:Addr) (Pv:Nat->List V->Hp->Prop) (n i:Nat) (y:V) (H4:Hp):Prop:=∃ acc,H4 D=some (.lst acc)/\acc.length<sizeLine/\NE H1 D Pv n i (upd H4 D (.lst (acc++[y])))
theorem AtE.yes {H1 H H4:Hp} {D:Addr} {Pv:Nat->List V->Hp->Prop} {n i:Nat} {acc:List V} {y:V} (a:AtE H1 D Pv n i acc H) (s:Same H H4) (p:Pv (i+1) (acc++[y]) H4):YesE H1 D Pv n i y H4:=
 ⟨acc,s _ _ a.at_,a.len,a.lt,(a.same.trans s).put a.new,acc++[y],upd_same,a.mono _ _ _ _ p fun b o h e=>by rw [upd_ne h];exact e⟩
theorem AtE.pvs {H1 H H4:Hp} {D:Addr} {Pv:Nat->List V->Hp->Prop} {n i:Nat} {acc:List V} (a:AtE H1 D Pv n i acc H) (s:Same H H4):Pv i acc H4:=a.mono _ _ _ _ a.pv fun b o _ e=>s b o e
theorem comp_ex {J:It} {g:TG} {tt:TT} {te:TE} {vs:List Nat} {σ:L2.St} {D:Addr} {Q:VK} {H1:Hp} {n:Nat} {Y:Nat->V->Hp->Prop} (y:Yields J H1 n Y) (hD:H1 D=none) (Pv:Nat->List V->Hp->Prop) (h0:Pv 0 [] H1)
  (mono:∀ i acc H H',Pv i acc H->SameD D H H'->Pv i acc H') (hlen:∀ i acc H,i<n->Pv i acc H->acc.length<sizeLine)
  (turn:∀ i acc H x,AtE H1 D Pv n i acc H->Y i x H->g x (wipe σ vs) H fun σ2 H2=>wipe σ2 vs=wipe σ vs/\tt σ2 H2 fun b H3=>if b=true then te σ2 H3 fun y H4=>YesE H1 D Pv n i y H4 else NE H1 D Pv n i H3)
  (done:∀ acc H,Same H1 H->H D=some (.lst acc)->Pv n acc H->Q (.ref D) H):CompW J g tt te vs σ D Q (upd H1 D (.lst [])):=by
 refine ⟨fun i m H=>m=n - i/\i<=n/\Same H1 H/\∃ acc,H D=some (.lst acc)/\Pv i acc H,⟨n,by simp,Nat.zero_le _,Same.new hD,[],upd_same,mono _ _ _ _ h0 fun b o h e=>by rw [upd_ne h];exact e⟩,?_⟩
 rintro i m H ⟨rfl,hi,s,acc,e,p⟩
 by_cases hlt:i<n
 ·refine .inr ⟨y.go i H hlt s,NE H1 D Pv n i,fun H' ⟨h1,h2,h3⟩=>⟨n - (i+1),by omega,rfl,h1,h2,h3⟩,fun x H' hy=>?_⟩
  obtain ⟨s2,hY⟩:=y.yld i H x H' hlt s hy
  exact turn i acc H' x ⟨hD,hlt,s.trans s2,s2 _ _ e,hlen i acc H hlt p,mono _ _ _ _ p (fun b o _ h=>s2 b o h),mono⟩ hY
 ·have e2:i=n:=by omega
  subst e2
  exact .inl ⟨y.stop H s,done acc H s e p⟩
theorem filter_range_yes {p:Nat->Bool} {i:Nat} (h:p i=true):(List.range (i+1)).filter p=(List.range i).filter p++[i]:=by
 rw [List.range_succ,List.filter_append,List.filter_cons,if_pos h,List.filter_nil]
theorem filter_range_no {p:Nat->Bool} {i:Nat} (h:p i=false):(List.range (i+1)).filter p=(List.range i).filter p:=by
 rw [List.range_succ,List.filter_append,List.filter_cons,if_neg (by rw [h];simp),List.filter_nil,List.append_nil]
theorem ints_refs {ws:List Int} {bs:List Addr} (h:ws.map V.int=bs.map V.ref):ws=[]:=by
 cases ws with
 | nil=>rfl
 | cons a r=>
  cases bs with
  | nil=>cases h
  | cons b t=>
   rw [List.map_cons,List.map_cons] at h
   injection h with h1 _
   cases h1
theorem nv_refs {ws:List Nat} {bs:List Addr} (h:nv ws=bs.map V.ref):ws=[]:=by
 rw [nv_ni] at h
 have:=ints_refs h
 cases ws with
 | nil=>rfl
 | cons a r=>cases this
theorem loop_list {K:PySem.W.Frag} {a:Addr} {xs:List V} {g:TG} {tb:TS} {D:Ends} {σ:L2.St} {H:Hp} (Pv:Nat->L2.St->Hp->Prop) (h0:Pv 0 σ H) (hl:∀ i σ H,i<=xs.length->Pv i σ H->SqL K H a xs)
  (hs:∀ i x σ H,xs[i]?=some x->Pv i σ H->g x σ H fun σ2 H2=>tb { D with nx:=Pv (i+1),ct:=Pv (i+1),bk:=D.nx } σ2 H2) (hd:∀ σ H,Pv xs.length σ H->D.nx σ H):LoopW (Itl K a) g tb D σ H:=for_list Pv h0 hl hs hd
section
variable {X:Cx} {o:Expr} {to:TE} {apos cpos:Pos}
theorem mt_bitlen:MtR X "int.bit_length" (fun x xs H Q=>∃ i,x=.int i/\xs=[]/\Q (.int ((Builtin.Int.intBits i:Nat):Int)) H):=by
 intro pins s σ H x xs v us Q I rx rxs h
 obtain ⟨i,rfl,rfl,q⟩:=h
 obtain ⟨t,rfl⟩:=rx
 cases rxs
 refine call_meets PySem.F.slot_int_bit_length (typeIs_int s i t) PySem.F.entry_int_bit_length (PySem.F.args_int_bit_length_1 _) (PySem.AutoIntG2.int_bit_length_int_0 i t).meets ?_
 exact ⟨.int _,H,I.tok _,⟨_,rfl⟩,q⟩
def tBitlen (to:TE):TE:=fun σ H Q=>to σ H fun x H1=>∃ i,x=.int i/\Q (.int ((Builtin.Int.intBits i:Nat):Int)) H1
theorem pe_bitlen (ho:PE X o to) (hbase:attributeBase o "bit_length" X.env (eval o X.env)=eval o X.env:=by rfl) (hline:(apos.endLine==cpos.line)=true:=by rfl):PE X (.Call (.Attribute o "bit_length" apos) [] [] cpos) (tBitlen to):=by
 intro pins s σ H Q I h
 refine wpAny_Call_method0_late hbase hline (thn (ho pins s σ H _ I h) fun v s1 ⟨x,H1,I1,r1,q1⟩=>?_)
 obtain ⟨i,rfl,q⟩:=q1
 obtain ⟨h1,h2⟩:=tyV_is I1 r1 (show tyV X.K "int" (.int i) H1 from rfl)
 exact ⟨"int","int.bit_length",PySem.F.plainAttrs_int,PySem.F.slot_int_bit_length,PySem.F.type_int_bit_length,h1,h2,Calls.callWith_builtin rfl (PySem.evalArgs_none (mt_bitlen pins s1 σ H1 (.int i) [] v [] Q I1 r1 .nil ⟨i,rfl,rfl,q⟩))⟩
end
section
variable {X:Cx} {CT CS:Addr}
def tRngV (ta:TA):TE:=fun σ H Q=>ta σ H fun vs H1=>∃ j:Int,vs=[.int j]/\∀ r,H1 r=none->Q (.ref r) (upd H1 r (.rng 0 j))
theorem pe_rangeV {a:Expr} {ta:TA} {p pos:Pos} (hm:X.mg "range"=none) (ha:PA X [a] ta) (hg:Gl X "range":=by rfl) (hs:starEach [a] X.env=[(false,eval a X.env)]:=by rfl):PE X (.Call (.Name "range" p) [a] [] pos) (tRngV ta):=by
 intro pins s σ H Q I h
 refine wpAny_Call_Name_kw (ld_blt I hg hm boot_range (PyProof.Rows.callWith_type1 (thn (ha pos pins s σ H _ I h) fun us s1 ⟨vs,H1,I1,r1,q1⟩=>?_) hs rfl))
 obtain ⟨j,e,q⟩:=q1
 subst e
 cases r1 with
 | cons r rr=>
  cases rr
  obtain ⟨t,rfl⟩:=r
  refine call_range_1 ⟨.ref s1.heap.objs.size,_,I1.laid (o:=.rng 0 j) (fun b u e=>Heap.get?_push_of_some _ e) (Nat.le_refl _) ⟨_,_,_,Heap.get?_push_size _ rfl⟩,rfl,q _ (I1.hok.fresh (Nat.le_refl _))⟩
theorem vals_from:∀ (l:List Value) (m:Nat),(∀ (j:Nat) (v:Value),l[j]?=some v->∃ t,v=Value.int ((m+j:Nat):Int) t)->Vals ((List.range' m l.length).map fun (n:Nat)=>V.int (n:Int)) l
 | [],m,_=>.nil
 | x::l,m,hx=>by
  rw [List.length_cons,List.range'_succ,List.map_cons]
  refine .cons ?_ (vals_from l (m+1) fun j v hv=>?_)
  ·obtain ⟨t,e⟩:=hx 0 x rfl
   exact ⟨t,by simpa using e⟩
  ·obtain ⟨t,e⟩:=hx (j+1) v (by simpa using hv)
   exact ⟨t,by rw [e,show m+(j+1)=m+1+j by omega]⟩
theorem vals_of_items {acc:List Value} {n:Nat} (hl:acc.length=n) (h:∀ (j:Nat) (v:Value),acc[j]?=some v->∃ t,v=Value.int (0+(j:Int) * 1) t):Vals (nv (List.range n)) acc:=by
 have:=vals_from acc 0 fun j v hv=>by
  obtain ⟨t,e⟩:=h j v hv
  exact ⟨t,by rw [e];congr 1;omega⟩
 rw [hl,<-List.range_eq_range'] at this
 exact this
theorem cr_list_range (hc:X.calm=true):CallR X (.type "list") (fun xs H Q=>∃ (r:Addr) (n:Nat),xs=[.ref r]/\H r=some (.rng 0 (n:Int))/\n<=1000/\∀ l,H l=none->Q (.ref l) (upd H l (.lst (nv (List.range n))))):=by
 intro pins s σ H xs us Q I rv h
 obtain ⟨r,n,rfl,hr,hn,q⟩:=h
 rw [Vals.ref1 rv]
 obtain ⟨t,u,v,e⟩:=(show ObjOk X.prog X.w H s.heap r (.rng 0 (n:Int)) from I.hok r _ hr)
 refine call_list_range (n:=n) (I.ok.hd hc) e (small_one (by decide) (by decide) (by omega) (by omega)) ?_ (by omega) fun h' tk acc c hk hS hacc=>?_
 ·rw [rangeSize_one];split <;> omega
 ·refine ⟨.ref s.heap.objs.size,_,I.laid (o:=.lst (nv (List.range n))) hk (Nat.le_refl _) ⟨?_,acc.toList,c,vals_of_items (by simpa using hacc.1) (fun j w hw=>hacc.2 j w (by simpa using hw)),by simpa using hS⟩,rfl,q _ (I.hok.fresh (Nat.le_refl _))⟩
  rw [nv_length,List.length_range]
  exact sml' (by omega)
theorem pe_listrange {a:Expr} {ta:TA} {p p2 pos pos2:Pos} (T:Txt X.K X.mg CT CS) (ha:PA X [a] ta) (hc:X.calm=true:=by rfl) (hg:Gl X "range":=by rfl) (hg2:Gl X "list":=by rfl) (hs:starEach [a] X.env=[(false,eval a X.env)]:=by rfl)
  (hst:starEach [.Call (.Name "range" p2) [a] [] pos2] X.env=[(false,eval (.Call (.Name "range" p2) [a] [] pos2) X.env)]:=by rfl):PE X (.Call (.Name "list" p) [.Call (.Name "range" p2) [a] [] pos2] [] pos)
   (tCB (fun xs H Q=>∃ (r:Addr) (n:Nat),xs=[.ref r]/\H r=some (.rng 0 (n:Int))/\n<=1000/\∀ l,H l=none->Q (.ref l) (upd H l (.lst (nv (List.range n))))) (tCons (tRngV ta) tNil)):=
 pe_callTy (cr_list_range hc) hg2 T.b_list boot_list (pa_cons (pe_rangeV T.b_range ha hg hs) pa_nil hst) (by decide) (by decide) hst rfl
theorem pe_kwB {id:String} {x kn:Str} {e v:Expr} {te tv:TE} {r:V->V->Hp->VK->Prop} {p pos kp:Pos} (hc:∀ (pins:List (Addr × Obj)) (s:Shared) (σ:L2.St) (H:Hp) (y z:V) (u w':Value) (Q:VK),Inv X pins σ H s->RelV y u->RelV z w'->r y z H Q->wpAny (model X.prog X.w) X.A (call (.builtin id) [u] [(kn,w')]) (EP X pins σ Q) X.xe s)
  (hm:X.mg x=none) (hv:bootBuiltins x=some (.builtin id)) (he:PE X e te) (hk:PE X v tv) (hg:Gl X x:=by rfl) (hn:x ≠ "__name__":=by decide) (hdb:(x==("__debug__":Str))=false:=by decide) (hs:starEach [e] X.env=[(false,eval e X.env)]:=by rfl) :
  PE X (.Call (.Name x p) [e] [⟨some kn,v,kp⟩] pos) (fun σ H Q=>te σ H fun y H1=>tv σ H1 fun z H2=>r y z H2 Q):=by
 intro pins s σ H Q I h
 refine wpAny_Call_Name_kw (ld_blt I hg hm hv ?_ hn hdb)
 have ha:=pa_cons he pa_nil hs pos pins s σ H (fun vs H1=>match vs with
  | [y]=>tv σ H1 fun z H2=>r y z H2 Q
  | _=>False) I h
 refine PyProof.Rows.callWith_kw (thn ha fun us s1 ⟨vs,H1,I1,rv,q1⟩=>?_) (by rw [hs];rfl) (by rw [hs];rfl) rfl rfl
 obtain ⟨y,rfl⟩:∃ y,vs=[y]:=by
  match vs,q1 with
  | [y],_=>exact ⟨y,rfl⟩
 obtain ⟨u,rfl,ru⟩:=vals1 rv
 refine PyProof.Rows.kws_cons (thn (hk pins s1 σ H1 _ I1 q1) fun w' s2 ⟨z,H2,I2,rz,q2⟩=>PyProof.Rows.kws_nil ?_)
 exact hc pins s2 σ H2 y z u w' Q I2 ru rz q2
theorem ns_eq {h:Heap} {a:Addr} {m m':Str->Option Value} (x:h.Ns a m) (y:h.Ns a m'):m=m':=by
 obtain ⟨o,es,ep,e1,d1,_,k1⟩:=x
 obtain ⟨o',es',ep',e2,d2,_,k2⟩:=y
 rw [e1] at e2
 cases e2
 rw [d1] at d2
 injection d2 with d2 _
 subst d2
 funext n
 rw [<-k1,<-k2]
theorem back_fr {pins:List (Addr × Obj)} {σ:L2.St} {H:Hp} {s:Shared} {h':Heap} {tk:Nat} {m:Str->Option Value} (I:L2.Inv X pins σ H s) (F0:Fr X.base X.env.locals s.heap m) (F:Fr X.base X.env.locals h' m) (N:News X.base X.env.locals h' (allNews X.base s.heap X.env.locals)) :
  L2.Inv X pins σ H { s with heap:=h',toks:=tk }:=by
 have kp:∀ b o,b ≠ X.env.locals->s.heap.get? b=some o->h'.get? b=some o:=fun b o hb e=>by
  cases q:X.base.get? b with
  | some u=>
   have:=F0.keep b u q
   rw [e] at this;cases this
   exact F.keep b _ q
  | none=>exact (N (b,o) (mem_allNews hb q e)).1
 obtain ⟨oL,_,_,hoL,_⟩:=F0.ns
 obtain ⟨oL',_,_,hoL',_⟩:=F.ns
 have tl:∀ b u,H b=some u->b ≠ X.env.locals:=fun b u e z=>by rw [z,I.free] at e;cases e
 refine I.step (g':=s.gens) (d':=s.drawn) (ch:=[]) (fun _ z=>nomatch z) (fun b o hb _ _ e _=>kp b o hb e) (fun b o hb _ _ e _=>⟨o.slots,kp b o hb e⟩) (fun _ _ _ _ n=>n) (fun b o _ e=>?_) (fun _ _ e=>e) (fun _ _ _ e=>e) (fun b ps e=>⟨#[],by rw [e];simp⟩) (fun m' hm=>?_) (fun b u e=>?_) I.bare
 ·by_cases hb:b=X.env.locals
  ·rw [hb];exact ⟨_,hoL'⟩
  ·exact ⟨o,kp b o hb e⟩
 ·rw [ns_eq hm F0.ns];exact F.ns
 ·refine (I.hok b u e).stay (fun c v hc q=>kp c v ?_ q) (fun _ q=>q) fun _ _ q=>q
  rcases hc with z | z
  ·rw [z];exact tl b u e
  ·exact tl c _ z
def rMinKey:V->V->Hp->VK->Prop:=fun y _ H Q=>∃ (l:Addr) (rs:List (List Nat)),y=.ref l/\RowsAt NoZ H l rs/\0<rs.length/\∀ (i:Nat) (a:Addr) (z:List Nat),rs[i]?=some z->H a=some (.lst (nv z))->(∀ j,j<rs.length->z.sum<=(rs.getD j []).sum/\(j<i->z.sum<(rs.getD j []).sum))->Q (.ref a) H
theorem minkey_ok (hcalm:X.calm=true) (pins:List (Addr × Obj)) (s:Shared) (σ:L2.St) (H:Hp) (y:V) (u:Value) (Q:VK) (I:L2.Inv X pins σ H s) (ry:RelV y u) (h:rMinKey y y H Q):wpAny (model X.prog X.w) X.A (call (.builtin "min") [u] [("key",.builtin "sum")]) (EP X pins σ Q) X.xe s:=by
 obtain ⟨l,rs,rfl,⟨_,as,e,pr⟩,hne,q⟩:=h
 obtain rfl:u=Value.ref l:=ry
 obtain ⟨z1,its,n,rv,hob⟩:=I.hok l _ e
 obtain ⟨m,F0⟩:=I.fr
 have hlen:=Paired_len pr
 have hL1:∀ b o,H b=some o->b ≠ X.env.locals:=fun b o eb z=>by rw [z,I.free] at eb;cases eb
 have hL2:∀ b o,H b=some o->X.base.get? b=none:=fun b o eb=>by
  cases q:X.base.get? b with
  | none=>rfl
  | some u=>have:=(I.bs b u q).2;rw [eb] at this;cases this
 have hvl:=rv.length
 rw [List.length_map,hlen] at hvl
 have item:∀ (i:Nat) (v:Value),its[i]?=some v->∃ a z,v=Value.ref a/\rs[i]?=some z/\H a=some (.lst (nv z)):=by
  intro i v hv
  have hi:i<rs.length:=by rw [hvl];exact lt_of_get hv
  obtain ⟨a,h1,_,h2⟩:=Paired_get pr (List.getElem?_eq_getElem hi)
  obtain ⟨u,hu,ru⟩:=rv.get (x:=V.ref a) (i:=i) (by rw [List.getElem?_map,h1];rfl)
  rw [hv] at hu
  cases hu
  exact ⟨a,rs[i],ru,List.getElem?_eq_getElem hi,h2⟩
 have gd:∀ (i:Nat) (z:List Nat),rs[i]?=some z->rs.getD i []=z:=fun i z hz=>by rw [List.getD_eq_getElem?_getD,hz];rfl
 refine kmb_min (kid:="sum") (L:=X.env.locals) (h₀:=X.base) (m:=m) (news:=allNews X.base s.heap X.env.locals) (vs:=its) (fun i=>(((rs.getD i []).sum:Nat):Int)) (I.ok.hd hcalm) F0 news_all ?_ (by omega) ?_ ?_
 ·intro h' F N
  exact PySem.IsL.isList (n:=n) (N _ (mem_allNews (hL1 l _ e) (hL2 l _ e) hob)).1
 ·intro i v hv h' tk own F N
  obtain ⟨a,z,rfl,hz,ha⟩:=item i v hv
  obtain ⟨_,ia,na,ra,hoa⟩:=I.hok a _ ha
  have ha':=(N _ (List.mem_append_left _ (mem_allNews (hL1 a _ ha) (hL2 a _ ha) hoa))).1
  rw [nv_ni] at ra
  refine sum_raw (s:={ s with heap:=h',toks:=tk }) (A:=X.A.in1) (I.ok.hd hcalm) (PySem.IsL.isList (n:=na) ha') (intsAre_of ra) fun h2 tk2 t2 hk=>?_
  rw [ni_sum,<-gd i z hz]
  obtain ⟨oL,es,ep,hoL,r⟩:=F.ns
  exact ⟨h2,tk2,t2,rfl,rfl,⟨⟨oL,es,ep,hk _ _ hoL,r⟩,fun b o eb=>hk _ _ (F.keep b o eb),F.above⟩,fun p hp=>⟨hk _ _ (N p hp).1,(N p hp).2⟩⟩
 ·intro i v h' tk' hv hbest F N
  obtain ⟨a,z,rfl,hz,ha⟩:=item i v hv
  refine ⟨.ref a,H,back_fr I F0 F N,rfl,q i a z hz ha fun j hj=>?_⟩
  have:=hbest j (by omega)
  rw [gd i z hz] at this
  omega
theorem pe_minkey {e:Expr} {te:TE} {p p2 pos kp:Pos} (T:Txt X.K X.mg CT CS) (he:PE X e te) (hcalm:X.calm=true:=by rfl) (hg:Gl X "min":=by rfl) (hg2:Gl X "sum":=by rfl) (hs:starEach [e] X.env=[(false,eval e X.env)]:=by rfl) :
  PE X (.Call (.Name "min" p) [e] [⟨some "key",.Name "sum" p2,kp⟩] pos) (fun σ H Q=>te σ H fun y H1=>rMinKey y y H1 Q):=by
 intro pins s σ H Q I h
 refine wpAny_Call_Name_kw (ld_blt I hg T.b_min boot_min ?_)
 have ha:=pa_cons he pa_nil hs pos pins s σ H (fun vs H1=>match vs with
  | [y]=>rMinKey y y H1 Q
  | _=>False) I h
 refine PyProof.Rows.callWith_kw (thn ha fun us s1 ⟨vs,H1,I1,rv,q1⟩=>?_) (by rw [hs];rfl) (by rw [hs];rfl) rfl rfl
 obtain ⟨y,rfl⟩:∃ y,vs=[y]:=by
  match vs,q1 with
  | [y],_=>exact ⟨y,rfl⟩
 obtain ⟨u,rfl,ru⟩:=vals1 rv
 refine PyProof.Rows.kws_cons (ld_blt I1 hg2 T.b_sum boot_sum (PyProof.Rows.kws_nil ?_))
 exact minkey_ok hcalm pins s1 σ H1 y u Q I1 ru q1
end
def maxUp (xs:List Int) (k:Nat):Int:=match k with
 | 0=>xs.getD 0 0
 | j+1=>if maxUp xs j<xs.getD (j+1) 0 then xs.getD (j+1) 0 else maxUp xs j
theorem maxUp_mem {xs:List Int}:∀ {k:Nat},k<xs.length->maxUp xs k ∈ xs
 | 0,h=>by unfold maxUp;rw [List.getD_eq_getElem?_getD,List.getElem?_eq_getElem h];exact List.getElem_mem h
 | k+1,h=>by
  unfold maxUp
  split
  ·rw [List.getD_eq_getElem?_getD,List.getElem?_eq_getElem h];exact List.getElem_mem h
  ·exact maxUp_mem (by omega)
theorem maxUp_ge {xs:List Int}:∀ {k j:Nat},j<=k->xs.getD j 0<=maxUp xs k
 | 0,j,h=>by
  have:j=0:=by omega
  subst this;exact Int.le_refl _
 | k+1,j,h=>by
  unfold maxUp
  by_cases e:j=k+1
  ·subst e;split <;> omega
  ·have:=maxUp_ge (xs:=xs) (k:=k) (j:=j) (by omega)
   split <;> omega
section
variable {prog:Program} {w:World} {A:Around} {I l S:Addr} {its:List Value} {xs:List Int} {R:Result->Shared->Prop} {kw:List (Str × Value)}
def lstO (c:Nat) (vs:Array Value):Obj:={ cls:=.type "list",dict:=none,data:=.seq vs c,slots:=#[] }
def Kp (I S:Addr) (h h':Heap):Prop:=∀ b o,b ≠ I->b ≠ S->h.get? b=some o->h'.get? b=some o
theorem item_int (hi:IntsAre its xs) {j:Nat} {v:Value} (hv:its[j]?=some v):∃ t,v=.int (xs.getD j 0) t:=by
 obtain ⟨u,h1,h2⟩:=(vals_of_ints hi).get (i:=j) (x:=V.int (xs.getD j 0)) (by
  have hl:=hi.length
  have:j<xs.length:=by rw [<-hl];exact lt_of_get hv
  rw [List.getElem?_map,List.getD_eq_getElem?_getD,List.getElem?_eq_getElem this];rfl)
 rw [hv] at h1
 cases h1
 exact h2
theorem max_on (hh:A.handled=none) (hi:IntsAre its xs) (hlI:l ≠ I) (hSI:S ≠ I) (hlS:l ≠ S):∀ (m j:Nat) (s:Shared) (t:Tok) (c:Nat),its.length - (j+1)=m->j+1<=its.length->s.heap.IsListIter I l (j+1)->s.heap.IsList l its.toArray ->
  s.heap.get? S=some (lstO c #[.int (maxUp xs j) t,.int (maxUp xs j) t])->(∀ h' tk t',Kp I S s.heap h'->R (.ok (.ret (.int (maxUp xs (its.length - 1)) t'))) { s with heap:=h',toks:=tk }) ->
  codeAny (model prog w) A (.builtin "max.loop" ⟨[.ref I,.none,.ref S],kw⟩) R s:=by
 have nm:(toString "max"++toString ".loop":String)="max.loop":=by decide
 have W:=Walks.list (prog:=prog) (w:=w) (A:=A.in1) hh I l hlI its.toArray
 have sz:its.toArray.size=its.length:=List.size_toArray ..
 intro m
 induction m with
 | zero=>
  intro j s t c hm hj hit hl hS hR
  have hin:j+1=its.length:=by omega
  refine codeAny_builtin (PySem.F.entry_max_loop) ?_
  rw [Around.under_plainId (PySem.F.plain_max_loop) _]
  show wpAny _ A.in1 (seqItems? (Value.ref S) >>= _) _ _ _
  refine wpAny_bind (wpAny_seqItems (show s.heap.get? S=some (lstO c _) from hS) rfl ?_)
  show wpAny _ A.in1 (tryCatch (pyNext (Value.ref I)) _ >>= _) _ _ _
  refine wpAny_bind (wpAny_tryCatch (W.done s _ _ ⟨by rw [sz,<-hin];exact hit,hl⟩ fun h1 tk1 k1=>?_))
  have hS1:=k1 S _ (by simpa using hSI) hS
  show wpAny _ A.in1 (updateSeq S (fun _=>#[]) >>= _) _ _ _
  refine wpAny_bind (wpAny_updateSeq (show h1.get? S=some (lstO c _) from hS1) rfl (wpAny_bind (wpAny_letGo (wpAny_pure ?_))))
  rw [show j=its.length - 1 by omega]
  exact hR _ tk1 t fun b o hb1 hb2 e=>(Heap.get?_update_other _ _ (Ne.symm hb2)).trans (k1 b o (by simpa using hb1) e)
 | succ m ih=>
  intro j s t c hm hj hit hl hS hR
  have hlt:j+1<its.length:=by omega
  refine codeAny_builtin (PySem.F.entry_max_loop) ?_
  rw [Around.under_plainId (PySem.F.plain_max_loop) _]
  show wpAny _ A.in1 (seqItems? (Value.ref S) >>= _) _ _ _
  refine wpAny_bind (wpAny_seqItems (show s.heap.get? S=some (lstO c _) from hS) rfl ?_)
  show wpAny _ A.in1 (tryCatch (pyNext (Value.ref I)) _ >>= _) _ _ _
  refine wpAny_bind (wpAny_tryCatch (W.item (j+1) s _ _ (by rw [sz];exact hlt) ⟨hit,hl⟩ fun v h1 tk1 hP st1 k1=>?_))
  have hv:its[j+1]?=some v:=by simpa using hP
  obtain ⟨t1,rfl⟩:=item_int hi hv
  have hS1:=k1 S _ (by simpa using hSI) hS
  have keep1:Kp I S s.heap h1:=fun b o hb1 _ e=>k1 b o (by simpa using hb1) e
  show wpAny _ A.in1 (tryCatch (holding [.int (xs.getD (j+1) 0) t1,.int (xs.getD (j+1) 0) t1] (richCompare .Gt (.int (xs.getD (j+1) 0) t1) (.int (maxUp xs j) t) >>= _)) _ >>= _) _ _ _
  refine wpAny_bind (wpAny_tryCatch (wpAny_holding (wpAny_bind ?_)))
  refine CmpOf.ints_gt (prog:=prog) (w:=w) (A:=A.in1) (P:=fun i v=>∃ t,v=.int (if i=0 then xs.getD (j+1) 0 else maxUp xs j) t) (fun i=>if i=0 then xs.getD (j+1) 0 else maxUp xs j) (fun i v h=>h) 0 1 _ _ _ _ _ ⟨t1,rfl⟩ ⟨t,rfl⟩ ?_
  refine wpAny_bind (wpAny_holding (wpAny_truthy_bool ?_))
  refine wpAny_bind (wpAny_letGo (wpAny_pure ?_))
  simp only [if_true,Nat.one_ne_zero,if_false]
  by_cases hb:maxUp xs j<xs.getD (j+1) 0
  ·have em:maxUp xs (j+1)=xs.getD (j+1) 0:=by rw [maxUp,if_pos hb]
   simp only [hb,decide_true,if_true]
   refine wpAny_bind (wpAny_updateSeq (show h1.get? S=some (lstO c _) from hS1) rfl (wpAny_bind (wpAny_letGo ?_)))
   rw [nm]
   have oth:∀ b o,b ≠ S->h1.get? b=some o->(h1.update S (Obj.mapSeq fun _=>#[.int (xs.getD (j+1) 0) t1,.int (xs.getD (j+1) 0) t1])).get? b=some o:=fun b o hb e=>(Heap.get?_update_other _ _ (Ne.symm hb)).trans e
   obtain ⟨c2,hc2⟩:∃ c2,(h1.update S (Obj.mapSeq fun _=>#[.int (xs.getD (j+1) 0) t1,.int (xs.getD (j+1) 0) t1])).get? S=some (lstO c2 #[.int (xs.getD (j+1) 0) t1,.int (xs.getD (j+1) 0) t1]):=⟨_,Heap.get?_update_self _ hS1 rfl⟩
   refine wpAny_pure ⟨plainId_quiet (PySem.F.plain_max_loop) _,ih (j+1) _ t1 c2 (by omega) hlt (st1.1.at fun o e=>oth I o (Ne.symm hSI) e) ?_ ?_ fun h2 tk2 t2 k2=>hR h2 tk2 t2 fun b o hb1 hb2 e=>k2 b o hb1 hb2 (oth b o hb2 (keep1 b o hb1 hb2 e))⟩
   ·obtain ⟨o,ho,hc⟩:=st1.2
    exact ⟨o,oth l o hlS ho,hc⟩
   ·rw [em]
    exact hc2
  ·have em:maxUp xs (j+1)=maxUp xs j:=by rw [maxUp,if_neg hb]
   simp only [hb,decide_false,Bool.false_eq_true,if_false]
   refine wpAny_bind (wpAny_letGo ?_)
   rw [nm]
   refine wpAny_pure ⟨plainId_quiet (PySem.F.plain_max_loop) _,ih (j+1) _ t c (by omega) hlt st1.1 st1.2 (by rw [em];exact hS1) fun h2 tk2 t2 k2=>hR h2 tk2 t2 fun b o hb1 hb2 e=>k2 b o hb1 hb2 (keep1 b o hb1 hb2 e)⟩
theorem args_maxd (a v:Value):argsOk "max" ⟨[a],[(Str.ofString "default",v)]⟩:=by unfold argsOk;kernel_rfl
theorem max_default {E:Value->Shared->Prop} {s:Shared} {d:Int} {td:Tok} {Q:Value->Shared->Prop} (hh:A.handled=none) (hi:IntsAre its xs) (hl:s.heap.IsList l its.toArray)
  (hQ:∀ h' tk t',(∀ b o,s.heap.get? b=some o->h'.get? b=some o)->Q (.int (if xs=[] then d else maxUp xs (xs.length - 1)) t') { s with heap:=h',toks:=tk }) :
  wpAny (model prog w) A (call (.builtin "max") [.ref l] [("default",.int d td)]) Q E s:=by
 have nm:(toString "max"++toString ".loop":String)="max.loop":=by decide
 have hl0:=hi.length
 obtain ⟨ol,hol,_⟩:=id hl
 have hll:l<s.heap.objs.size:=Heap.lt_size hol
 refine kmb_tree (PySem.F.kind_max) (PySem.F.plain_max) (PySem.F.entry_max) (args_maxd _ _) ?_
 show wpAny _ A.in1 (Builtin.Builtins.bindParams "max" ["key","default"] 0 ⟨[],[(Str.ofString "default",Value.int d td)]⟩ >>= _) _ _ _
 refine wpAny_bind (wpAny_of_eq (show Builtin.Builtins.bindParams "max" ["key","default"] 0 ⟨[],[(Str.ofString "default",Value.int d td)]⟩=pure [none,some (Value.int d td)] from rfl) (wpAny_bind (wpAny_pure ?_)))
 refine wpAny_bind (wpAny_pyIter_list hl (wpAny_bind (wpAny_newList ?_ (Nat.zero_le _))))
 rw [nm]
 generalize hI:s.heap.objs.size=I at *
 have eS:(s.heap.push { cls:=.type "list_iterator",data:=.fields #[.ref l,.int 0 0] }).objs.size=I+1:=by rw [<-hI];exact Heap.size_push ..
 have hlI:l ≠ I:=Nat.ne_of_lt hll
 rw [eS]
 have gI:((s.heap.push { cls:=.type "list_iterator",data:=.fields #[.ref l,.int 0 0] }).push (lstO 0 #[])).get? I=some { cls:=.type "list_iterator",data:=.fields #[.ref l,.int 0 0] }:=by
  refine Heap.get?_push_of_some _ ?_
  rw [<-hI];exact Heap.get?_push_size _ rfl
 have gS:((s.heap.push { cls:=.type "list_iterator",data:=.fields #[.ref l,.int 0 0] }).push (lstO 0 #[])).get? (I+1)=some (lstO 0 #[]):=by
  rw [<-eS];exact Heap.get?_push_size _ rfl
 have gK:∀ b o,s.heap.get? b=some o->((s.heap.push { cls:=.type "list_iterator",data:=.fields #[.ref l,.int 0 0] }).push (lstO 0 #[])).get? b=some o:=fun b o e=>Heap.get?_push_of_some _ (Heap.get?_push_of_some _ e)
 have lt1:∀ b o,s.heap.get? b=some o->b ≠ I/\b ≠ I+1:=fun b o e=>by
  have:=Heap.lt_size e
  rw [hI] at this
  exact ⟨Nat.ne_of_lt this,Nat.ne_of_lt (Nat.lt_succ_of_lt this)⟩
 have W:=Walks.list (prog:=prog) (w:=w) (A:=A.in1) hh I l hlI its.toArray
 have sz:its.toArray.size=its.length:=List.size_toArray ..
 refine wpAny_pure ⟨plainId_quiet (PySem.F.plain_max_loop) _,?_⟩
 refine codeAny_builtin (PySem.F.entry_max_loop) ?_
 rw [Around.under_plainId (PySem.F.plain_max_loop) _]
 show wpAny _ A.in1 (seqItems? (Value.ref (I+1)) >>= _) _ _ _
 refine wpAny_bind (wpAny_seqItems (show Heap.get? _ (I+1)=some (lstO 0 _) from gS) rfl ?_)
 show wpAny _ A.in1 (tryCatch (pyNext (Value.ref I)) _ >>= _) _ _ _
 have hlist:Heap.IsList ((s.heap.push { cls:=.type "list_iterator",data:=.fields #[.ref l,.int 0 0] }).push (lstO 0 #[])) l its.toArray:=by
  obtain ⟨o2,h2,h3⟩:=hl
  exact ⟨o2,gK l o2 h2,h3⟩
 by_cases hn:its.length=0
 ·have x0:xs=[]:=List.length_eq_zero_iff.mp (by rw [<-hl0];exact hn)
  refine wpAny_bind (wpAny_tryCatch (W.done _ _ _ ⟨by rw [sz,hn];exact ⟨_,gI,rfl,rfl⟩,hlist⟩ fun h1 tk1 k1=>?_))
  refine wpAny_bind (wpAny_rule (wpAny_pure ?_))
  have:=hQ h1 tk1 td fun b o e=>k1 b o (by simpa using (lt1 b o e).1) (gK b o e)
  rw [if_pos x0] at this
  exact this
 ·have xn:xs ≠ []:=fun z=>hn (by rw [hl0,z];rfl)
  refine wpAny_bind (wpAny_tryCatch (W.item 0 _ _ _ (by rw [sz];omega) ⟨⟨_,gI,rfl,rfl⟩,hlist⟩ fun v h1 tk1 hP st1 k1=>?_))
  have hv:its[0]?=some v:=by simpa using hP
  obtain ⟨t1,rfl⟩:=item_int hi hv
  have hS1:=k1 (I+1) _ (by simp) gS
  show wpAny _ A.in1 (updateSeq (I+1) (fun _=>#[.int (xs.getD 0 0) t1,.int (xs.getD 0 0) t1]) >>= _) _ _ _
  refine wpAny_bind (wpAny_updateSeq (show h1.get? (I+1)=some (lstO 0 _) from hS1) rfl ?_)
  rw [nm]
  have oth:∀ b o,b ≠ I+1->h1.get? b=some o->(h1.update (I+1) (Obj.mapSeq fun _=>#[.int (xs.getD 0 0) t1,.int (xs.getD 0 0) t1])).get? b=some o:=fun b o hb e=>(Heap.get?_update_other _ _ (Ne.symm hb)).trans e
  obtain ⟨c2,hc2⟩:∃ c2,(h1.update (I+1) (Obj.mapSeq fun _=>#[.int (xs.getD 0 0) t1,.int (xs.getD 0 0) t1])).get? (I+1)=some (lstO c2 #[.int (xs.getD 0 0) t1,.int (xs.getD 0 0) t1]):=⟨_,Heap.get?_update_self _ hS1 rfl⟩
  have hl1:l ≠ I+1:=(lt1 l ol hol).2
  refine wpAny_pure ⟨plainId_quiet (PySem.F.plain_max_loop) _,max_on hh hi hlI (Nat.succ_ne_self _) hl1 _ 0 _ t1 c2 rfl (by omega) (st1.1.at fun o e=>oth I o (by omega) e) ?_ hc2 fun h2 tk2 t2 k2=>?_⟩
  ·obtain ⟨o,ho,hc⟩:=st1.2
   exact ⟨o,oth l o hl1 ho,hc⟩
  ·have:=hQ h2 tk2 t2 fun b o e=>k2 b o (lt1 b o e).1 (lt1 b o e).2 (oth b o (lt1 b o e).2 (k1 b o (by simpa using (lt1 b o e).1) (gK b o e)))
   rw [if_neg xn,<-hl0] at this
   exact this
end
section
variable {X:Cx} {CT CS:Addr}
def rMaxD (K:PySem.W.Frag):V->V->Hp->VK->Prop:=fun y z H Q=>∃ (l:Addr) (xs:List Int) (d:Int),y=.ref l/\z=.int d/\SqL K H l (xs.map V.int)/\(xs=[]->Q (.int d) H)/\∀ m,m ∈ xs->(∀ n ∈ xs,n<=m)->Q (.int m) H
theorem pe_maxdef {e v:Expr} {te tv:TE} {p pos kp:Pos} (T:Txt X.K X.mg CT CS) (he:PE X e te) (hk:PE X v tv) (hcalm:X.calm=true:=by rfl) (hg:Gl X "max":=by rfl) (hs:starEach [e] X.env=[(false,eval e X.env)]:=by rfl) :
  PE X (.Call (.Name "max" p) [e] [⟨some "default",v,kp⟩] pos) (fun σ H Q=>te σ H fun y H1=>tv σ H1 fun z H2=>rMaxD X.K y z H2 Q):=by
 refine pe_kwB (fun pins s σ H y z u w' Q I ry rz h=>?_) T.b_max boot_max he hk hg (by decide) (by decide) hs
 obtain ⟨l,xs,d,rfl,rfl,hl,q0,q1⟩:=h
 obtain rfl:u=Value.ref l:=ry
 obtain ⟨td,rfl⟩:=rz
 obtain ⟨its,rv,pl,_⟩:=I.list hl
 refine max_default (I.ok.hd hcalm) (intsAre_of rv) pl.isList fun h' tk t' hk=>⟨.int _,H,I.kept hk,⟨t',rfl⟩,?_⟩
 by_cases hx:xs=[]
 ·rw [if_pos hx];exact q0 hx
 ·rw [if_neg hx]
  have hp:0<xs.length:=List.length_pos_iff.mpr hx
  refine q1 _ (maxUp_mem (by omega)) fun n hn=>?_
  obtain ⟨j,hj,rfl⟩:=List.getElem_of_mem hn
  have:=maxUp_ge (xs:=xs) (k:=xs.length - 1) (j:=j) (by omega)
  rw [List.getD_eq_getElem?_getD,List.getElem?_eq_getElem hj] at this
  exact this
end
theorem rm {j k:Nat} {A:Around} (r:Room k A) (h:j<=k:=by first | decide | omega):Room j A:=r.mono h
theorem pN {X:Cx} {x:Str} {pos:Pos} (i:Nat) (hN:X.N.Nodup) (hi:X.N[i]?=some x:=by rfl) (hx:Loc X.env.scope x:=by first | exact Or.inl rfl | exact Or.inr rfl) (hf:X.fn x=true\/X.env.scope.names.lookup x=some .local:=by first | exact .inl rfl | exact .inr rfl | assumption):PG X (.Name x pos) (gName i):=pg_name hN hi hx hf
theorem pS {X:Cx} {x:Str} {e:Expr} {te:TE} {pos pos':Pos} (i:Nat) (hN:X.N.Nodup) (he:PE X e te) (hi:X.N[i]?=some x:=by rfl) (hx:Loc X.env.scope x:=by first | exact Or.inl rfl | exact Or.inr rfl) (hs:swapsWith e (some (.Name x pos')) pos.line X.env=pure false:=by rfl) (hf:X.fn x=true\/X.env.scope.names.lookup x=some .local:=by first | exact .inl rfl | exact .inr rfl | assumption):PS X (.Assign [.Name x pos'] e pos) (tAsg te (gName i)):=ps_set hN hi hx he hs hf
variable {P:Program} {w:World} {K:PySem.W.Frag} {mg:Str->Option Value} {base:Heap} {CT CS f:Addr} {fd:FuncData}
local macro_rules | `(tactic| walk_at "rd")=>`(tactic| try simp only [L2.start,tSeq,tAsg,gName,tRet,tDrop,tIfS,tNext,tCall,tCons,tNil,tVar,tC,tOp,rI0,rI,rU,tUn,tTest,tB,tNot,tAnd,tOr,tNotV,tAndV,tOrV,tIf,tLst,tTup,tCB,tChain,tSl,tNoPart,tPart,rSlL,rIxL,rIxT,rSetL,gSub,gCons,gNil,tBM,tBM0,rAppend,rExtend,rPop,rCat,rRep,tIsN,tNotN,tYes,rSum,rMax,rMin,rAny,rAll,rEq,rNe,scal,tTW,tTP,tTK,tTL,tTR,tG,tFor_eq,tLc_eq,iList,iTup,iRng1,iRng2,iEnum,iZip,iKeys,wipe,sFld,tFld,tMeth,tMake,sDPut,tDNewK,tDNewT,tDGet2,tDNotIn,rIn,tRngV,rMinKey,rMaxD,CPow,CMul,CDiv,cx_K,bk_K,cx_A,cx_mg,
 List.map_cons,List.map_nil,List.length_cons,List.length_nil,List.replicate,List.cons_append,List.nil_append,List.append_nil,List.getElem?_cons_zero,List.getElem?_cons_succ,Option.some.injEq,V.int.injEq,V.ref.injEq,V.bl.injEq,List.cons.injEq,exists_eq_left,exists_eq_left',exists_eq_right,exists_and_left,exists_and_right,and_assoc,and_true,true_and,List.set_cons_zero,List.set_cons_succ,Nat.reduceAdd,Nat.reduceSub,Nat.reduceLeDiff,reduceCtorEq,decide_eq_true_eq,decide_true,decide_false,ite_true,ite_false,Bool.false_eq_true,if_false,if_true,Bool.not_eq_true',decide_eq_false_iff_not,Bool.not_true,Bool.not_false])
def spHasRow:Sp:=fun vs H Q _=>∃ k:Nat,vs=[.int (k:Int)]/\Q (.bl (hasRow (k:Int))) H
def spIsKind:Sp:=fun vs H Q _=>∃ k:Nat,vs=[.int (k:Int)]/\Q (.bl (decide (k<=2))) H
def spIsWorldSet (CT:Addr):Sp:=fun vs H Q _=>∃ (Z:Addr->Prop) (a:Addr) (k:Nat) (b:Krag.Book),vs=[.ref a,.int (k:Int)]/\ToldAt Z CT H a b/\Q (.bl (decide (k<2 ^ b.n))) H
def spHasLot (CT:Addr):Sp:=fun vs H Q _=>∃ (Z:Addr->Prop) (a:Addr) (k:Nat) (b:Krag.Book),vs=[.ref a,.int (k:Int)]/\ToldAt Z CT H a b/\Q (.bl (decide (k<b.lots.length))) H
def spHasLots (CT:Addr):Sp:=fun vs H Q _=>∃ (Z:Addr->Prop) (a:Addr) (k m:Nat) (b:Krag.Book),vs=[.ref a,.int (k:Int),.int (m:Int)]/\ToldAt Z CT H a b/\Q (.bl (decide (k<b.lots.length) && decide (m<b.lots.length))) H
def spHasPrize (CT:Addr):Sp:=fun vs H Q _=>∃ (Z:Addr->Prop) (a:Addr) (k:Nat) (b:Krag.Book),vs=[.ref a,.int (k:Int)]/\ToldAt Z CT H a b/\Q (.bl (decide (k<b.prizes))) H
def spHolds:Sp:=fun vs H Q _=>∃ (k:Nat) (i j:Int),vs=[.int (k:Int),.int i,.int j]/\Q (.bl (holdsI k i j)) H
def spIsMember:Sp:=fun vs H Q _=>∃ (c i:Nat),vs=[.int (c:Int),.int (i:Int)]/\Q (.bl (c.testBit i)) H
def spSetOf (K:PySem.W.Frag):Sp:=fun vs H Q _=>∃ (l:Addr) (ps:List Nat),vs=[.ref l]/\SqL K H l (nv ps)/\(∀ p ∈ ps,p<=1000)/\ps.length<=1000/\∀ H',Same H H'->Q (.int (((ps.map fun i=>2 ^ i).sum:Nat):Int)) H'
def spSetOfAll:Sp:=fun vs H Q _=>∃ (n:Nat),vs=[.int (n:Int)]/\n<=100/\Q (.int ((2 ^ n - 1:Nat):Int)) H
def spGcd:Sp:=fun vs H Q _=>∃ (a b:Nat),vs=[.int (a:Int),.int (b:Int)]/\Q (.int (Nat.gcd a b:Nat)) H
def spFraction:Sp:=fun vs H Q _=>∃ (a b:Nat),vs=[.int (a:Int),.int (b:Int)]/\0<b/\b<1000/\∀ l,H l=none->Q (.ref l) (upd H l (.lst ((Krag.fraction a b).map V.int)))
theorem dec_nat_le (a b:Nat):decide ((a:Int)<=(b:Int))=decide (a<=b):=by rw [Bool.eq_iff_iff];simp
theorem dec_nat_lt (a b:Nat):decide ((a:Int)<(b:Int))=decide (a<b):=by rw [Bool.eq_iff_iff];simp
theorem dec_nat_eq (a b:Nat):decide ((a:Int)=(b:Int))=decide (a=b):=by rw [Bool.eq_iff_iff];simp;omega
theorem pow_cast (n:Nat):(2:Int) ^ n=((2 ^ n:Nat):Int):=by rw [Int.natCast_pow];rfl
theorem sc6:FnScope ["kind"] ["kind"] (defScope s_6):=⟨rfl,rfl,rfl,by decide +kernel,rfl,by decide +kernel,by decide +kernel⟩
theorem ok6 (F:Fun K "is_kind" "is_kind" s_6 f fd) (T:Txt K mg CT CS):FnOk P w K mg base CX0 1 f fd ["kind"] spIsKind:=by
 refine F.ok sc6 (fun vs H Q E h=>by obtain ⟨k,rfl,_⟩:=h;rfl) (fun cdv A outer s H vs Q E hr h=>?_)
 obtain ⟨k,rfl,q⟩:=h
 refine ⟨_,(pss_one (ps_ret (pe_cmpR op_le (pv 0) (pe_gi T.c_LAST_KIND) (nomark _)))),?_⟩
 walk_at "rd"
 rw [show (2:Int)=((2:Nat):Int) from rfl,dec_nat_le];exact q
theorem sc0:FnScope ["call"] ["call"] (defScope s_0):=⟨rfl,rfl,rfl,by decide +kernel,rfl,by decide +kernel,by decide +kernel⟩
theorem ok0 (F:Fun K "has_row" "has_row" s_0 f fd) (T:Txt K mg CT CS):FnOk P w K mg base CX0 1 f fd ["call"] spHasRow:=by
 refine F.ok sc0 (fun vs H Q E h=>by obtain ⟨k,rfl,_⟩:=h;rfl) (fun cdv A outer s H vs Q E hr h=>?_)
 obtain ⟨k,rfl,q⟩:=h
 refine ⟨_,(pss_one (ps_ret (pe_or (pe_cmpR op_eq (pv 0) (pe_gi T.c_LOT) (nomark _)) (pe_or (pe_cmpR op_eq (pv 0) (pe_gi T.c_FITS) (nomark _)) (pe_one (pe_cmpR op_eq (pv 0) (pe_gi T.c_WRONG) (nomark _))))))),?_⟩
 walk_at "rd"
 unfold hasRow at q
 by_cases h1:(k:Int)=3
 ·rw [if_pos h1];simpa [h1] using q
 ·rw [if_neg h1]
  by_cases h2:(k:Int)=13
  ·rw [if_pos h2];simpa [h1,h2] using q
  ·rw [if_neg h2];simpa only [h1,h2,decide_false,Bool.false_or] using q
theorem sc7:FnScope ["told","chosen"] ["told","chosen"] (defScope s_7):=⟨rfl,rfl,rfl,by decide +kernel,rfl,by decide +kernel,by decide +kernel⟩
theorem ok7 (F:Fun K "is_world_set" "is_world_set" s_7 f fd) (T:Txt K mg CT CS):FnOk P w K mg base CX0 1 f fd ["told","chosen"] (spIsWorldSet CT):=by
 refine F.ok sc7 (fun vs H Q E h=>by obtain ⟨_,_,_,_,rfl,_⟩:=h;rfl) (fun cdv A outer s H vs Q E hr h=>?_)
 obtain ⟨Z,a,k,b,rfl,ht,q⟩:=h
 refine ⟨_,(pss_one (ps_ret (pe_cmpR op_eq (pe_op op_shr (pv 1) (pe_worlds T (pv 0))) pe_int (nomark _)))),?_⟩
 walk_at "rd"
 refine ⟨_,_,ht,by omega,?_⟩
 have e:decide ((k:Int) / 2 ^ ((b.n:Int)).toNat=0)=decide (k<2 ^ b.n):=by
  rw [Int.toNat_natCast,pow_cast,Bool.eq_iff_iff,decide_eq_true_eq,decide_eq_true_eq]
  have:0<2 ^ b.n:=Nat.pow_pos (by decide)
  rw [<-Int.natCast_ediv]
  constructor
  ·intro h
   have h:k / 2 ^ b.n=0:=by omega
   exact (Nat.div_eq_zero_iff.mp h).resolve_left (by omega)
  ·intro h
   rw [Nat.div_eq_of_lt h];rfl
 rw [e];exact q
theorem sc8:FnScope ["told","lot"] ["told","lot"] (defScope s_8):=⟨rfl,rfl,rfl,by decide +kernel,rfl,by decide +kernel,by decide +kernel⟩
theorem ok8 (F:Fun K "has_lot" "has_lot" s_8 f fd) (T:Txt K mg CT CS):FnOk P w K mg base CX0 1 f fd ["told","lot"] (spHasLot CT):=by
 refine F.ok sc8 (fun vs H Q E h=>by obtain ⟨_,_,_,_,rfl,_⟩:=h;rfl) (fun cdv A outer s H vs Q E hr h=>?_)
 obtain ⟨Z,a,k,b,rfl,ht,q⟩:=h
 refine ⟨_,(pss_one (ps_ret (pe_cmpR op_lt (pv 1) (pe_callB call_len_seq rfl T.b_len PySem.boot_len (pa_cons (pe_lots T (pv 0)) pa_nil)) (nomark _)))),?_⟩
 walk_at "rd"
 refine ⟨_,_,_,ht,Same.refl _,fun l hl=>?_⟩
 obtain ⟨z,as,e,p⟩:=hl
 refine ⟨_,.inl (SqL.of e),?_⟩
 rw [List.length_map,Paired_len p,dec_nat_lt];exact q
theorem sc9:FnScope ["told","first","second"] ["told","first","second"] (defScope s_9):=⟨rfl,rfl,rfl,by decide +kernel,rfl,by decide +kernel,by decide +kernel⟩
theorem ok9 (F:Fun K "has_lots" "has_lots" s_9 f fd) (T:Txt K mg CT CS) (c_8:Callee P w K mg base "has_lot" 1 ["told","lot"] (spHasLot CT)):FnOk P w K mg base CX0 2 f fd ["told","first","second"] (spHasLots CT):=by
 refine F.ok sc9 (fun vs H Q E h=>by obtain ⟨_,_,_,_,_,rfl,_⟩:=h;rfl) (fun cdv A outer s H vs Q E hr h=>?_)
 obtain ⟨Z,a,k,m,b,rfl,ht,q⟩:=h
 refine ⟨_,(pss_one (ps_ret (pe_and (pe_fn c_8 (rm hr) (pa_cons (pv 0) (pa_cons (pv 1) pa_nil))) (pe_one (pe_fn c_8 (rm hr) (pa_cons (pv 0) (pa_cons (pv 2) pa_nil))))))),?_⟩
 walk_at "rd"
 refine ⟨Z,a,k,b,rfl,ht,_,rfl,?_⟩
 by_cases h:k<b.lots.length
 ·rw [if_pos (by simpa using h)]
  refine ⟨Z,a,m,b,rfl,ht,?_⟩
  simpa [h] using q
 ·rw [if_neg (by simpa using h)]
  simpa [h] using q
theorem sc10:FnScope ["told","prize"] ["told","prize"] (defScope s_10):=⟨rfl,rfl,rfl,by decide +kernel,rfl,by decide +kernel,by decide +kernel⟩
theorem ok10 (F:Fun K "has_prize" "has_prize" s_10 f fd) (T:Txt K mg CT CS):FnOk P w K mg base CX0 1 f fd ["told","prize"] (spHasPrize CT):=by
 refine F.ok sc10 (fun vs H Q E h=>by obtain ⟨_,_,_,_,rfl,_⟩:=h;rfl) (fun cdv A outer s H vs Q E hr h=>?_)
 obtain ⟨Z,a,k,b,rfl,ht,q⟩:=h
 refine ⟨_,(pss_one (ps_ret (pe_cmpR op_lt (pv 1) (pe_prizes T (pv 0)) (nomark _)))),?_⟩
 walk_at "rd"
 refine ⟨_,_,ht,?_⟩
 rw [dec_nat_lt];exact q
theorem sc11:FnScope ["kind","first","second"] ["kind","first","second"] (defScope s_11):=⟨rfl,rfl,rfl,by decide +kernel,rfl,by decide +kernel,by decide +kernel⟩
theorem ok11 (F:Fun K "holds" "holds" s_11 f fd) (T:Txt K mg CT CS):FnOk P w K mg base CX0 1 f fd ["kind","first","second"] spHolds:=by
 refine F.ok sc11 (fun vs H Q E h=>by obtain ⟨_,_,_,rfl,_⟩:=h;rfl) (fun cdv A outer s H vs Q E hr h=>?_)
 obtain ⟨k,i,j,rfl,q⟩:=h
 refine ⟨_,(pss_cons (ps_if (pt_cmpR op_eq (pv 0) pe_int (nomark _)) (pss_one (ps_ret (pe_cmpR op_gt (pv 1) (pv 2) (nomark _)))) pss_nil)
  (pss_cons (ps_if (pt_cmpR op_eq (pv 0) pe_int (nomark _)) (pss_one (ps_ret (pe_cmpR op_ge (pv 1) (pv 2) (nomark _)))) pss_nil)
  (pss_one (ps_ret (pe_cmpR op_eq (pv 1) (pv 2) (nomark _)))))),?_⟩
 walk_at "rd"
 unfold holdsI at q
 by_cases h0:k=0
 ·rw [if_pos (by omega)];rw [if_pos h0] at q;exact q
 ·rw [if_neg (by omega)];rw [if_neg h0] at q
  by_cases h1:k=1
  ·rw [if_pos (by omega)];rw [if_pos h1] at q;exact q
  ·rw [if_neg (by omega)];rw [if_neg h1] at q;exact q
theorem sc22:FnScope ["chosen","place"] ["chosen","place"] (defScope s_22):=⟨rfl,rfl,rfl,by decide +kernel,rfl,by decide +kernel,by decide +kernel⟩
theorem ok22 (F:Fun K "is_member" "is_member" s_22 f fd) (T:Txt K mg CT CS):FnOk P w K mg base CX0 1 f fd ["chosen","place"] spIsMember:=by
 refine F.ok sc22 (fun vs H Q E h=>by obtain ⟨_,_,rfl,_⟩:=h;rfl) (fun cdv A outer s H vs Q E hr h=>?_)
 obtain ⟨c,i,rfl,q⟩:=h
 refine ⟨_,(pss_one (ps_ret (pe_cmpR op_eq (pe_op op_and (pe_op op_shr (pv 0) (pv 1)) pe_int) pe_int (nomark _)))),?_⟩
 walk_at "rd"
 refine ⟨by omega,?_⟩
 have e:decide (Builtin.bitAnd ((c:Int) / 2 ^ ((i:Int)).toNat) 1=1)=c.testBit i:=by
  rw [bitAnd_m1,Int.toNat_natCast,pow_cast,<-Int.natCast_ediv,Nat.testBit_eq_decide_div_mod_eq,Bool.eq_iff_iff,decide_eq_true_eq,decide_eq_true_eq]
  omega
 rw [e];exact q
theorem sc25:FnScope ["size"] ["size"] (defScope s_25):=⟨rfl,rfl,rfl,by decide +kernel,rfl,by decide +kernel,by decide +kernel⟩
theorem ok25 (F:Fun K "set_of_all" "set_of_all" s_25 f fd) (T:Txt K mg CT CS):FnOk P w K mg base CX0 1 f fd ["size"] spSetOfAll:=by
 refine F.ok sc25 (fun vs H Q E h=>by obtain ⟨_,rfl,_⟩:=h;rfl) (fun cdv A outer s H vs Q E hr h=>?_)
 obtain ⟨n,rfl,hn,q⟩:=h
 refine ⟨_,(pss_one (ps_ret (pe_op op_sub (pe_op op_shl pe_int (pv 0)) pe_int))),?_⟩
 walk_at "rd"
 refine ⟨by omega,by omega,by decide,?_⟩
 have:0<2 ^ n:=Nat.pow_pos (by decide)
 have e:(1:Int) * 2 ^ ((n:Int)).toNat - 1=((2 ^ n - 1:Nat):Int):=by
  rw [Int.toNat_natCast,pow_cast];omega
 rw [e];exact q
theorem sc24:FnScope ["places","place"] ["places"] (defScope s_24):=⟨rfl,rfl,rfl,by decide +kernel,rfl,by decide +kernel,by decide +kernel⟩
theorem ok24 (F:Fun K "set_of" "set_of" s_24 f fd) (T:Txt K mg CT CS):FnOk P w K mg base CX0 1 f fd ["places"] (spSetOf K):=by
 refine F.ok sc24 (fun vs H Q E h=>by obtain ⟨_,_,rfl,_⟩:=h;rfl) (fun cdv A outer s H vs Q E hr h=>?_)
 obtain ⟨l,ps,rfl,hl,hp,hn,q⟩:=h
 refine ⟨_,(pss_one (ps_ret (pe_callB (cr_sum rfl) rfl T.b_sum boot_sum (pa_cons (pe_lc (own:=[("place",1)]) rfl sc24.nd (pi_list (pv 0)) (blkOk_by (N:=["places","place"]) (sc:=defScope s_24) (by decide +kernel)) (fun _ _ _ _ _=>(pN 1 sc24.nd)) (fun _ _ _ _ _=>pts_nil) (fun _ _ _ _ _=>(pe_op op_shl pe_int (pv 1)))) pa_nil)))),?_⟩
 walk_at "rd"
 refine ⟨⟨_,hl⟩,fun D hD=>comp_of (yl_list hl) hD (fun i=>nv ((ps.take i).map fun i=>2 ^ i)) rfl (fun i hi=>?_) (fun i H x a y=>?_) (fun H s e=>?_)⟩
 ·rw [nv_length] at hi ⊢
  exact sml (by simp;omega)
 ·walk_at "rd"
  obtain ⟨n,hn',rfl⟩:=nv_get y
  have hm:=hp n (List.mem_of_getElem? hn')
  refine ⟨_,rfl,by omega,by omega,by decide,a.yes (Same.refl _) ?_⟩
  simp only [take_snoc hn',List.map_append,nv_append]
  rw [Int.toNat_natCast,pow_cast,Int.one_mul]
  rfl
 ·walk_at "rd"
  rw [nv_length,List.take_length,nv_ni] at e
  refine ⟨_,SqL.of e,?_⟩
  rw [ni_sum]
  exact q H s
theorem sc40:FnScope ["first","second","rest"] ["first","second"] (defScope s_40):=⟨rfl,rfl,rfl,by decide +kernel,rfl,by decide +kernel,by decide +kernel⟩
theorem ok40 (F:Fun K "common_divisor" "common_divisor" s_40 f fd) (T:Txt K mg CT CS):FnOk P w K mg base CX0 1 f fd ["first","second"] spGcd:=by
 refine F.ok sc40 (fun vs H Q E h=>by obtain ⟨_,_,rfl,_⟩:=h;rfl) (fun cdv A outer s H vs Q E hr h=>?_)
 obtain ⟨a,b,rfl,q⟩:=h
 refine ⟨_,(pss_cons (ps_while PassesOwn.never (pt_cmpR op_ne (pv 1) pe_int (nomark _))
   (pss_cons (pS 2 sc40.nd (pe_op op_mod (pv 0) (pv 1)))
  (pss_cons (pS 0 sc40.nd (pv 1))
  (pss_one (pS 1 sc40.nd (pv 2))))))
  (pss_one (ps_ret (pv 0)))),?_⟩
 walk_at "rd"
 refine ⟨fun m σ H'=>H'=H/\∃ (x y:Nat) (r:Option V),σ=[some (.int (x:Int)),some (.int (y:Int)),r]/\Nat.gcd x y=Nat.gcd a b/\m=y,⟨b,rfl,a,b,none,rfl,rfl,rfl⟩,?_⟩
 rintro m σ H' ⟨rfl,x,y,r,rfl,hg,hm⟩
 subst hm
 walk_at "rd"
 by_cases hy:m=0
 ·rw [if_neg (by omega)]
  subst hy
  rw [Nat.gcd_zero_right] at hg
  rw [hg];exact q
 ·rw [if_pos (by omega)]
  refine ⟨fun σ' H2=>H2=H'/\∃ (x' y':Nat) (r:Option V),σ'=[some (.int (x':Int)),some (.int (y':Int)),r]/\Nat.gcd x' y'=Nat.gcd a b/\y'<m,?_,?_⟩
  ·rintro σ' H2 ⟨rfl,x',y',r,rfl,h1,h2⟩
   exact ⟨y',h2,rfl,x',y',⟨r,rfl⟩,h1,rfl⟩
  ·refine ⟨by omega,rfl,m,x % m,some (.int ((x % m:Nat):Int)),?_,?_,Nat.mod_lt _ (by omega)⟩
   ·rw [Int.natCast_emod]
   ·rw [gcd_step x m hy];exact hg
theorem sc41:FnScope ["upper","lower","divisor"] ["upper","lower"] (defScope s_41):=⟨rfl,rfl,rfl,by decide +kernel,rfl,by decide +kernel,by decide +kernel⟩
theorem ok41 (F:Fun K "fraction" "fraction" s_41 f fd) (T:Txt K mg CT CS) (c_40:Callee P w K mg base "common_divisor" 1 ["first","second"] spGcd):FnOk P w K mg base CX0 2 f fd ["upper","lower"] spFraction:=by
 refine F.ok sc41 (fun vs H Q E h=>by obtain ⟨_,_,rfl,_⟩:=h;rfl) (fun cdv A outer s H vs Q E hr h=>?_)
 obtain ⟨a,b,rfl,hb,hb2,q⟩:=h
 refine ⟨_,(pss_cons (pS 2 sc41.nd (pe_fn c_40 (rm hr) (pa_cons (pv 0) (pa_cons (pv 1) pa_nil))))
  (pss_one (ps_ret (pe_lst (pa_cons (pe_op op_fdiv (pv 0) (pv 2)) (pa_cons (pe_op op_fdiv (pv 1) (pv 2)) pa_nil)))))),?_⟩
 walk_at "rd"
 have g1:0<Nat.gcd a b:=Nat.gcd_pos_of_pos_right a hb
 have g2:Nat.gcd a b<=b:=Nat.gcd_le_right a hb
 refine ⟨a,b,rfl,?_⟩
 walk_at "rd"
 refine ⟨by omega,by omega,by omega,by omega,sml' (by decide),fun p hp=>?_⟩
 have:=q p hp
 unfold Krag.fraction Krae.leastForm at this
 simp only [List.map_cons,List.map_nil,Int.natCast_ediv] at this
 exact this
theorem Paired_pairs {α β:Type} {F:α->β->Prop}:∀ {l₁:List α} {l₂:List β},Paired F l₁ l₂->∃ prs:List (α × β),l₁=prs.map (·.1)/\l₂=prs.map (·.2)/\∀ p ∈ prs,F p.1 p.2
 | _,_,.nil=>⟨[],rfl,rfl,fun p h=>by cases h⟩
 | _,_,.cons r t=>by
  obtain ⟨prs,h1,h2,h3⟩:=Paired_pairs t
  refine ⟨(_,_)::prs,by rw [h1];rfl,by rw [h2];rfl,fun p hp=>?_⟩
  rcases List.mem_cons.mp hp with rfl | hp
  ·exact r
  ·exact h3 p hp
theorem Paired_of {α β:Type} {F:α->β->Prop}:∀ (prs:List (α × β)),(∀ p ∈ prs,F p.1 p.2)->Paired F (prs.map (·.1)) (prs.map (·.2))
 | [],_=>.nil
 | p::r,h=>.cons (h p List.mem_cons_self) (Paired_of r fun q hq=>h q (List.mem_cons_of_mem _ hq))
theorem RowsAt.prs {Z:Addr->Prop} {H:Hp} {l:Addr} {rs:List (List Nat)} (h:RowsAt Z H l rs):∃ prs:List (Addr × List Nat),rs=prs.map (·.2)/\H l=some (.lst (prs.map fun p=>V.ref p.1))/\∀ p ∈ prs,H p.1=some (.lst (nv p.2)):=by
 obtain ⟨z,as,e,p⟩:=h
 obtain ⟨prs,h1,h2,h3⟩:=Paired_pairs p
 refine ⟨prs,h2,?_,fun p hp=>(h3 p hp).2⟩
 rw [e,h1,List.map_map]
 rfl
theorem rowsAt_of {H:Hp} {l:Addr} (prs:List (Addr × List Nat)) (h:H l=some (.lst (prs.map fun p=>V.ref p.1))) (hp:∀ p ∈ prs,H p.1=some (.lst (nv p.2))):RowsAt NoZ H l (prs.map (·.2)):=by
 refine ⟨id,prs.map (·.1),by rw [h,List.map_map];rfl,?_⟩
 exact Paired_of (F:=fun a r=>¬ NoZ a/\H a=some (.lst (nv r))) prs fun p hq=>⟨id,hp p hq⟩
def numbersB (p:Nat) (x:List Nat):Bool:=x.length==p && x.all fun v=>decide (1<=v) && decide (v<=Krab.mostNumber)
def spIsNumbers (K:PySem.W.Frag) (CT:Addr):Sp:=fun vs H Q _=>∃ (Z:Addr->Prop) (a l:Addr) (b:Krag.Book) (x:List Nat),vs=[.ref a,.ref l]/\ToldAt Z CT H a b/\SqL K H l (nv x)/\x.length<=1000/\∀ H',Same H H'->Q (.bl (numbersB b.prizes x)) H'
def spAllNumbers:Sp:=fun vs H Q _=>∃ (p:Nat),vs=[.int (p:Int)]/\p<=4/\∀ l H',Same H H'->RowsAt NoZ H' l (Krab.rows p)->Q (.ref l) H'
def spPrizeShares (K:PySem.W.Frag) (CT:Addr):Sp:=fun vs H Q _=>∃ (Z:Addr->Prop) (a sl:Addr) (b:Krag.Book) (x:List Nat) (l:Nat),vs=[.ref a,.ref sl,.int (l:Int)]/\ToldAt Z CT H a b/\SqL K H sl (nv x)/\x.length=b.n/\l<b.lots.length/\
 ∀ p H',Same H H'->H' p=some (.lst (nv (Krag.sideOf b.prizes x (b.lot l))))->Q (.ref p) H'
def gapsB (b:Krag.Book) (x:List Nat) (l m:Nat):List Int:=gaps b.prizes (Krag.sideOf b.prizes x (b.lot l)) (Krag.sideOf b.prizes x (b.lot m))
def spPrizeGaps (K:PySem.W.Frag) (CT:Addr):Sp:=fun vs H Q _=>∃ (Z:Addr->Prop) (a sl:Addr) (b:Krag.Book) (x:List Nat) (l m:Nat),vs=[.ref a,.ref sl,.int (l:Int),.int (m:Int)]/\ToldAt Z CT H a b/\SqL K H sl (nv x)/\x.length=b.n/\l<b.lots.length/\m<b.lots.length/\
 ∀ p H',Same H H'->H' p=some (.lst ((gapsB b x l m).map V.int))->Q (.ref p) H'
def spWeighed (K:PySem.W.Frag):Sp:=fun vs H Q _=>∃ (u v:Addr) (ws:List Int) (z:List Nat),vs=[.ref u,.ref v]/\SqL K H u (ws.map V.int)/\SqL K H v (nv z)/\ws.length=z.length/\z.length<=1000/\(∀ n ∈ z,n<=1000)/\∀ H',Same H H'->Q (.int (dot ws z)) H'
theorem sc12:FnScope ["told","row","number"] ["told","row"] (defScope s_12):=⟨rfl,rfl,rfl,by decide +kernel,rfl,by decide +kernel,by decide +kernel⟩
theorem ok12 (F:Fun K "is_numbers" "is_numbers" s_12 f fd) (T:Txt K mg CT CS):FnOk P w K mg base CX0 1 f fd ["told","row"] (spIsNumbers K CT):=by
 refine F.ok sc12 (fun vs H Q E h=>by obtain ⟨_,_,_,_,_,rfl,_⟩:=h;rfl) (fun cdv A outer s H vs Q E hr h=>?_)
 obtain ⟨Z,a,l,b,x,rfl,ht,hl,hx,q⟩:=h
 refine ⟨_,(pss_cons (ps_if (pt_cmpR op_ne (pe_callB call_len_seq rfl T.b_len PySem.boot_len (pa_cons (pv 1) pa_nil)) (pe_prizes T (pv 0)) (nomark _)) (pss_one (ps_ret pe_bl)) pss_nil)
  (pss_one (ps_ret (pe_callB (cr_all rfl) rfl T.b_all boot_all (pa_cons (pe_lc (own:=[("number",2)]) rfl sc12.nd (pi_list (pv 1)) (blkOk_by (N:=["told","row","number"]) (sc:=defScope s_12) (by decide +kernel)) (fun _ _ _ _ _=>(pN 2 sc12.nd)) (fun _ _ _ _ _=>pts_nil) (fun _ _ _ _ _=>(pe_chain op_le op_le (pe_gi T.c_LEAST_NUMBER) (pv 2) (pe_gi T.c_GREATEST_NUMBER)))) pa_nil))))),?_⟩
 walk_at "rd"
 refine ⟨_,.inl hl,_,_,ht,?_⟩
 rw [nv_length]
 by_cases hn:x.length=b.prizes
 ·rw [if_neg (by omega)]
  refine ⟨⟨_,hl⟩,fun D hD=>comp_of (yl_list hl) hD (fun i=>((x.take i).map fun v=>decide (1<=v) && decide (v<=Krab.mostNumber)).map V.bl) rfl (fun i hi=>?_) (fun i H v a y=>?_) (fun H s e=>?_)⟩
  ·rw [nv_length] at hi
   exact sml (by simp;omega)
  ·walk_at "rd"
   obtain ⟨n,hn',rfl⟩:=nv_get y
   walk_at "rd"
   have o:∀ c:Bool,c=(decide (1<=n) && decide (n<=Krab.mostNumber))->((x.take (i+1)).map fun v=>decide (1<=v) && decide (v<=Krab.mostNumber)).map V.bl=((x.take i).map fun v=>decide (1<=v) && decide (v<=Krab.mostNumber)).map V.bl++[V.bl c]:=by
    intro c hc
    rw [take_snoc hn',hc];simp
   by_cases h1:1<=n
   ·rw [if_pos (by omega)]
    refine a.yes (Same.refl _) (o _ ?_)
    rw [show (8:Int)=((8:Nat):Int) from rfl,dec_nat_le,decide_eq_true h1];rfl
   ·rw [if_neg (by omega)]
    exact a.yes (Same.refl _) (o _ (by simp [h1]))
  ·walk_at "rd"
   rw [nv_length,List.take_length] at e
   refine ⟨_,SqL.of e,?_⟩
   have e2:((x.map fun v=>decide (1<=v) && decide (v<=Krab.mostNumber)).all id)=numbersB b.prizes x:=by
    unfold numbersB
    rw [List.all_map];simp [hn,Function.comp_def]
   rw [e2]
   exact q H s
 ·rw [if_pos (by omega)]
  have e:numbersB b.prizes x=false:=by simp [numbersB,hn]
  have:=q H (Same.refl _)
  rw [e] at this;exact this
theorem sc13:FnScope ["prizes","found","length","longer","row","number"] ["prizes"] (defScope s_13):=⟨rfl,rfl,rfl,by decide +kernel,rfl,by decide +kernel,by decide +kernel⟩
theorem ok13 (F:Fun K "all_numbers" "all_numbers" s_13 f fd) (T:Txt K mg CT CS):FnOk P w K mg base CX0 1 f fd ["prizes"] spAllNumbers:=by
 refine F.ok sc13 (fun vs H Q E h=>by obtain ⟨_,rfl,_⟩:=h;rfl) (fun cdv A outer s H vs Q E hr h=>?_)
 obtain ⟨p,rfl,hp,q⟩:=h
 refine ⟨_,(pss_cons (pS 1 sc13.nd (pe_lst (pa_cons (pe_lst pa_nil) pa_nil)))
  (pss_cons (ps_for PassesOwn.never rfl (pi_range1 rfl T.b_range (pa_cons (pv 0) pa_nil)) (pN 2 sc13.nd)
   (pss_cons (pS 3 sc13.nd (pe_lst pa_nil))
  (pss_cons (ps_for PassesOwn.never rfl (pi_list (pv 1)) (pN 4 sc13.nd)
   (pss_one (ps_for PassesOwn.never rfl (pi_range2 rfl T.b_range (pa_cons (pe_gi T.c_LEAST_NUMBER) (pa_cons (pe_op op_add (pe_gi T.c_GREATEST_NUMBER) pe_int) pa_nil))) (pN 5 sc13.nd)
   (pss_one (ps_expr (pe_bm PySem.F.plainAttrs_list PySem.F.slot_list_append PySem.F.type_list_append mt_append (pv 3) (pa_cons (pe_op op_cat (pv 4) (pe_lst (pa_cons (pv 5) pa_nil))) pa_nil)))))))
  (pss_one (pS 1 sc13.nd (pv 3))))))
  (pss_one (ps_ret (pv 1))))),?_⟩
 walk_at "rd"
 refine ⟨sml' (by decide),fun l0 n0=>⟨sml' (by decide),fun l1 n1=>⟨by omega,by omega,?_⟩⟩⟩
 have s0:Same H (upd (upd H l0 (.lst [])) l1 (.lst [.ref l0])):=(Same.new n0).trans (Same.new n1)
 obtain ⟨Pv,hPv⟩:∃ Pv:Nat->L2.St->Hp->Prop,∀ i σ H',Pv i σ H' ↔ (Same H H'/\∃ (l:Addr) (o2 o3 o4 o5:Option V),σ=[some (.int (p:Int)),some (.ref l),o2,o3,o4,o5]/\RowsAt NoZ H' l (Krab.rows i)):=⟨_,fun _ _ _=>Iff.rfl⟩
 refine loop_of (yl_range (H1:=H) 0 (p:Int).toNat) Pv (fun i σ H' h=>((hPv _ _ _).mp h).1) ((hPv _ _ _).mpr ⟨s0,l1,none,none,none,none,rfl,?_⟩) (fun i σ H' H2 h s=>by
  obtain ⟨h1,l,o2,o3,o4,o5,h2,h3⟩:=(hPv _ _ _).mp h
  exact (hPv _ _ _).mpr ⟨h1.trans s,l,o2,o3,o4,o5,h2,h3.mono (s.z _)⟩) ?_ ?_
 ·exact rowsAt_of [(l0,[])] upd_same fun p hp=>by
   have e:p=(l0,[]):=by simpa using hp
   subst e
   rw [upd_ne (ne_of_none upd_same n1),upd_same]
   rfl
 ·intro i σ H' x hi h hx
  obtain ⟨s1,l,o2,o3,o4,o5,rfl,hr1⟩:=(hPv _ _ _).mp h
  subst hx
  walk_at "rd"
  refine ⟨sml' (by decide),fun L nL=>?_⟩
  obtain ⟨prs,e1,e2,e3⟩:=hr1.prs
  have sL:Same H' (upd H' L (.lst [])):=Same.new nL
  have hp4:i<4:=by omega
  have hlen:prs.length=8 ^ i:=by rw [<-rows_count i,e1,List.length_map]
  have h8:8 ^ i<=512:=Nat.le_trans (Nat.pow_le_pow_right (by decide) (show i<=3 by omega)) (by decide)
  obtain ⟨Pw,hPw⟩:∃ Pw:Nat->L2.St->Hp->Prop,∀ j σ H2,Pw j σ H2 ↔ (Same H' H2/\∃ (o4 o5:Option V) (qs:List (Addr × List Nat)),σ=[some (.int (p:Int)),some (.ref l),some (.int (0+(i:Int))),some (.ref L),o4,o5]/\H2 L=some (.lst (qs.map fun p=>V.ref p.1))/\qs.map (·.2)=((Krab.rows i).take j).flatMap (fun r=>digits.map fun d=>r++[d])/\∀ p ∈ qs,H' p.1=none/\p.1 ≠ L/\H2 p.1=some (.lst (nv p.2))):=⟨_,fun _ _ _=>Iff.rfl⟩
  refine ⟨⟨_,SqL.of (sL _ _ e2)⟩,loop_of (yl_list (K:=K) (SqL.of e2)) Pw (fun i σ H' h=>((hPw _ _ _).mp h).1) ((hPw _ _ _).mpr ⟨sL,o4,o5,[],rfl,upd_same,by simp,fun p hp=>by cases hp⟩) (fun j σ H2 H3 h s=>by
   obtain ⟨h1,o4,o5,qs,h2,h3,h4,h5⟩:=(hPw _ _ _).mp h
   exact (hPw _ _ _).mpr ⟨h1.trans s,o4,o5,qs,h2,s _ _ h3,h4,fun p hp=>⟨(h5 p hp).1,(h5 p hp).2.1,s _ _ (h5 p hp).2.2⟩⟩) ?_ ?_⟩
  ·intro j σ H2 x hj h hx
   obtain ⟨s2,o4,o5,qs,rfl,hL,hq,hqs⟩:=(hPw _ _ _).mp h
   obtain ⟨pr,hpr,rfl⟩:∃ pr,prs[j]?=some pr/\x=V.ref pr.1:=by
    rw [List.getElem?_map] at hx
    cases e:prs[j]? with
    | none=>rw [e] at hx;cases hx
    | some pr=>rw [e] at hx;exact ⟨pr,rfl,(Option.some.inj hx).symm⟩
   have hrow:(Krab.rows i)[j]?=some pr.2:=by rw [e1,List.getElem?_map,hpr];rfl
   have hlr:pr.2.length=i:=rows_len (List.mem_of_getElem? hrow)
   have hat:=e3 pr (List.mem_of_getElem? hpr)
   have hj':j<8 ^ i:=by rw [<-hlen];exact lt_of_get hpr
   have hcount:(((Krab.rows i).take j).flatMap (fun r=>digits.map fun d=>r++[d])).length<=8 * j:=by
    rw [List.length_flatMap]
    have:∀ m:List (List Nat),(m.map fun r=>(digits.map fun d=>r++[d]).length).sum=8 * m.length:=by
     intro m
     induction m with
     | nil=>rfl
     | cons a m ih=>rw [List.map_cons,List.sum_cons,ih,List.length_map,List.length_cons];show 8+_=_;omega
    rw [this,List.length_take];omega
   walk_at "rd"
   obtain ⟨Pk,hPk⟩:∃ Pk:Nat->L2.St->Hp->Prop,∀ k σ H3,Pk k σ H3 ↔ (Same H' H3/\∃ (o5:Option V) (qs:List (Addr × List Nat)),σ=[some (.int (p:Int)),some (.ref l),some (.int (0+(i:Int))),some (.ref L),some (.ref pr.1),o5]/\H3 L=some (.lst (qs.map fun p=>V.ref p.1))/\qs.map (·.2)=((Krab.rows i).take j).flatMap (fun r=>digits.map fun d=>r++[d])++(digits.take k).map (fun d=>pr.2++[d])/\∀ p ∈ qs,H' p.1=none/\p.1 ≠ L/\H3 p.1=some (.lst (nv p.2))):=⟨_,fun _ _ _=>Iff.rfl⟩
   refine ⟨by decide,by decide,by decide,by decide,loop_of (yl_range (H1:=H') 1 (8+1 - 1:Int).toNat) Pk (fun i σ H' h=>((hPk _ _ _).mp h).1) ((hPk _ _ _).mpr ⟨s2,o5,qs,rfl,hL,by simpa using hq,hqs⟩) (fun j σ H2 H3 h s=>by
    obtain ⟨h1,o5,qs,h2,h3,h4,h5⟩:=(hPk _ _ _).mp h
    exact (hPk _ _ _).mpr ⟨h1.trans s,o5,qs,h2,s _ _ h3,h4,fun p hp=>⟨(h5 p hp).1,(h5 p hp).2.1,s _ _ (h5 p hp).2.2⟩⟩) ?_ ?_⟩
   ·intro k σ H3 x hk h hx
    obtain ⟨s3,o5,qs,rfl,hL,hq,hqs⟩:=(hPk _ _ _).mp h
    subst hx
    have hk:k<8:=hk
    have hd:digits[k]?=some (k+1):=by
     show ((List.range 8).map fun x=>x+1)[k]?=_
     rw [List.getElem?_map,List.getElem?_range hk];rfl
    have hql:qs.length<=8 * j+8:=by
     have:=congrArg List.length hq
     rw [List.length_map,List.length_append,List.length_map,List.length_take] at this
     have d8:digits.length=8:=rfl
     omega
    walk_at "rd"
    refine ⟨.inl ⟨rfl,_,SqL.of hL⟩,sml' (by decide),fun p1 m1=>⟨_,s3.trans (Same.new m1) _ _ hat,_,upd_same,sml' (by rw [nv_length];simp;omega),fun p2 m2=>?_⟩⟩
    have q1:Same H3 (upd H3 p1 (.lst [V.int (1+(k:Int))])):=Same.new m1
    have q2:Same H3 (upd (upd H3 p1 (.lst [V.int (1+(k:Int))])) p2 (.lst (nv pr.2++[V.int (1+(k:Int))]))):=q1.trans (Same.new m2)
    refine ⟨_,q2 _ _ hL,sml (by rw [List.length_map];omega),(hPk _ _ _).mpr ⟨(s3.trans q2).put nL,_,qs++[(p2,pr.2++[k+1])],rfl,?_,?_,?_⟩⟩
    ·rw [upd_same,List.map_append];rfl
    ·rw [List.map_append,hq,take_snoc hd,List.map_append,List.append_assoc];rfl
    ·intro pp hpp
     rcases List.mem_append.mp hpp with hpp | hpp
     ·obtain ⟨c1,c2,c3⟩:=hqs pp hpp
      exact ⟨c1,c2,by rw [upd_ne c2];exact q2 _ _ c3⟩
     ·have e:pp=(p2,pr.2++[k+1]):=by simpa using hpp
      subst e
      have n2:p2 ≠ L:=fun z=>by
       have:=q1 _ _ hL
       rw [<-z,m2] at this;cases this
      refine ⟨(s3.trans q1).free m2,n2,?_⟩
      rw [upd_ne n2,upd_same,nv_snoc]
      rw [show (1+(k:Int))=((k+1:Nat):Int) by omega]
   ·intro σ H3 h
    obtain ⟨s3,o5,qs,rfl,hL,hq,hqs⟩:=(hPk _ _ _).mp h
    refine (hPw _ _ _).mpr ⟨s3,_,_,qs,rfl,hL,?_,hqs⟩
    rw [hq,take_snoc hrow,List.flatMap_append]
    congr 1
  ·intro σ H2 h
   obtain ⟨s2,o4,o5,qs,rfl,hL,hq,hqs⟩:=(hPw _ _ _).mp h
   walk_at "rd"
   refine (hPv _ _ _).mpr ⟨s1.trans s2,L,_,_,_,_,rfl,?_⟩
   have:=rowsAt_of qs hL fun p hp=>(hqs p hp).2.2
   rw [hq,List.length_map,hlen,<-rows_count i,List.take_length,<-rows_snoc] at this
   exact this
 ·intro σ H' h
  obtain ⟨s1,l,o2,o3,o4,o5,rfl,hr1⟩:=(hPv _ _ _).mp h
  walk_at "rd"
  exact q l H' s1 hr1
theorem RowsAt.row {Z:Addr->Prop} {H:Hp} {l:Addr} {rs:List (List Nat)} (h:RowsAt Z H l rs):∃ as:List Addr,as.length=rs.length/\H l=some (.lst (as.map V.ref))/\∀ i,i<rs.length->∃ a,as[i]?=some a/\¬ Z a/\H a=some (.lst (nv (rs.getD i []))):=by
 obtain ⟨z,as,e,p⟩:=h
 refine ⟨as,Paired_len p,e,fun i hi=>?_⟩
 obtain ⟨a,h1,h2,h3⟩:=Paired_get (i:=i) (b:=rs.getD i []) p (by rw [List.getD_eq_getElem?_getD,List.getElem?_eq_getElem hi];rfl)
 exact ⟨a,h1,h2,h3⟩
theorem ref_at {as:List Addr} {i:Nat} {a:Addr} (h:as[i]?=some a):atI (as.map V.ref) (i:Int)=some (.ref a):=atI_nat (by rw [List.getElem?_map,h];rfl)
theorem lot_ok {b:Krag.Book} (ok:BookOk b) {l:Nat} (hl:l<b.lots.length):(b.lot l).length=b.n/\∀ p ∈ b.lot l,p<b.prizes:=by
 have:b.lot l ∈ b.lots:=by
  unfold Krag.Book.lot
  rw [List.getD_eq_getElem?_getD,List.getElem?_eq_getElem hl]
  exact List.getElem_mem hl
 exact ok.lt _ this
theorem ixN_nat {n j:Nat} (h:j<n):ixN n (j:Int)=some j:=by
 unfold ixN
 rw [if_pos (by omega),if_pos (by omega)];simp
theorem getD_mem {l:List Nat} {i:Nat} (h:i<l.length):l.getD i 0 ∈ l:=by
 rw [List.getD_eq_getElem?_getD,List.getElem?_eq_getElem h];exact List.getElem_mem h
theorem nv_set (l:List Nat) (i n:Nat):(nv l).set i (V.int (n:Int))=nv (l.set i n):=by
 unfold nv
 rw [List.map_set]
theorem sc14:FnScope ["told","shares","lot","found","world","prize"] ["told","shares","lot"] (defScope s_14):=⟨rfl,rfl,rfl,by decide +kernel,rfl,by decide +kernel,by decide +kernel⟩
theorem ok14 (F:Fun K "prize_shares" "prize_shares" s_14 f fd) (T:Txt K mg CT CS):FnOk P w K mg base CX0 1 f fd ["told","shares","lot"] (spPrizeShares K CT):=by
 refine F.ok sc14 (fun vs H Q E h=>by obtain ⟨_,_,_,_,_,_,rfl,_⟩:=h;rfl) (fun cdv A outer s H vs Q E hr h=>?_)
 obtain ⟨Z,a,sl,b,x,l,rfl,ht,hx,hn,hl,q⟩:=h
 refine ⟨_,(pss_cons (pS 3 sc14.nd (pe_op op_rep (pe_lst (pa_cons pe_int pa_nil)) (pe_prizes T (pv 0))))
  (pss_cons (ps_for PassesOwn.never rfl (pi_enum rfl T.b_enumerate (pa_cons (pe_ix ix_list (pe_lots T (pv 0)) (pv 2) (fun _ _=>rfl)) pa_nil)) (pg_tup (n:=2) rfl (pgs_cons (pN 4 sc14.nd) (pgs_cons (pN 5 sc14.nd) pgs_nil)))
   (pss_one (ps_asg (pe_op op_add (pe_ix ix_list (pv 3) (pv 5) (fun _ _=>rfl)) (pe_ix ix_list (pv 1) (pv 4) (fun _ _=>rfl))) (pg_sub (pv 3) (pv 5) set_list))))
  (pss_one (ps_ret (pv 3))))),?_⟩
 walk_at "rd"
 have ok:=ht.ok
 have:=ok.p4
 refine ⟨sml' (by decide),fun p0 n0=>?_⟩
 have s0:Same H (upd H p0 (.lst [V.int 0])):=Same.new n0
 refine ⟨Z,b,ht.mono s0,_,upd_same,by omega,by omega,sml' (by simp;omega),fun D nD=>?_⟩
 have s1:Same H (upd (upd H p0 (.lst [V.int 0])) D (.lst (List.replicate (b.prizes:Int).toNat [V.int 0]).flatten)):=s0.trans (Same.new nD)
 have nDH:H D=none:=s0.free nD
 refine ⟨Z,b,H,ht,s1,fun ll hll=>?_⟩
 obtain ⟨as,e1,e2,e3⟩:=hll.row
 obtain ⟨la,e4,e5,e6⟩:=e3 l hl
 refine ⟨_,SqL.of (s1 _ _ e2),_,ref_at e4,?_⟩
 obtain ⟨lo1,lo2⟩:=lot_ok ok hl
 have hlot:b.lots.getD l []=b.lot l:=rfl
 rw [hlot] at e6
 walk_at "rd"
 obtain ⟨Pv,hPv⟩:∃ Pv:Nat->L2.St->Hp->Prop,∀ i σ H',Pv i σ H' ↔ (Same H H'/\∃ (o4 o5:Option V),σ=[some (.ref a),some (.ref sl),some (.int (l:Int)),some (.ref D),o4,o5]/\H' D=some (.lst (nv ((List.range b.prizes).map (sidePart x (b.lot l) i))))):=⟨_,fun _ _ _=>Iff.rfl⟩
 refine ⟨⟨_,SqL.of (s1 _ _ e6)⟩,loop_of (yl_enum (K:=K) (SqL.of e6)) Pv (fun i σ H' h=>((hPv _ _ _).mp h).1) ((hPv _ _ _).mpr ⟨s1,none,none,rfl,?_⟩) (fun i σ H' H2 h s=>by
  obtain ⟨h1,o4,o5,h2,h3⟩:=(hPv _ _ _).mp h
  exact (hPv _ _ _).mpr ⟨h1.trans s,o4,o5,h2,s _ _ h3⟩) ?_ ?_⟩
 ·rw [upd_same,side_zero]
  congr 2
  rw [Int.toNat_natCast]
  clear q
  induction b.prizes with
  | zero=>rfl
  | succ n ih=>rw [List.replicate_succ,List.flatten_cons,ih,List.replicate_succ];rfl
 ·rintro i σ H' v hi h ⟨TT,y,rfl,hT,hy⟩
  obtain ⟨s2,o4,o5,rfl,hD⟩:=(hPv _ _ _).mp h
  obtain ⟨n,hn',rfl⟩:=nv_get hy
  have hnp:n<b.prizes:=lo2 n (List.mem_of_getElem? hn')
  have hil:i<x.length:=by rw [hn,<-lo1];exact lt_of_get hn'
  refine gtup_of hT rfl ?_
  walk_at "rd"
  have hlen:n<(nv ((List.range b.prizes).map (sidePart x (b.lot l) i))).length:=by rw [nv_length];simpa using hnp
  have hat:(nv ((List.range b.prizes).map (sidePart x (b.lot l) i)))[n]?=some (.int ((sidePart x (b.lot l) i n:Nat):Int)):=by
   rw [nv_at (by simpa using hnp),getD_range_map _ _ _ hnp]
  refine ⟨_,SqL.of hD,_,atI_nat hat,_,s2.seq hx,_,atI_nat (nv_at hil),?_⟩
  walk_at "rd"
  refine ⟨_,hD,n,ixN_nat hlen,(hPv _ _ _).mpr ⟨s2.put nDH,_,_,rfl,?_⟩⟩
  rw [upd_same,<-Int.natCast_add,nv_set]
  have:=side_set x (b.lot l) b.prizes i (by rw [getD_of hn'];exact hnp)
  rw [getD_of hn'] at this
  rw [this]
 ·intro σ H' h
  obtain ⟨s2,o4,o5,rfl,hD⟩:=(hPv _ _ _).mp h
  walk_at "rd"
  rw [nv_length,lo1,<-hn,<-sideOf_eq] at hD
  exact q D H' s2 hD
theorem sc15:FnScope ["told","shares","first","second","ahead","other","prize"] ["told","shares","first","second"] (defScope s_15):=⟨rfl,rfl,rfl,by decide +kernel,rfl,by decide +kernel,by decide +kernel⟩
theorem ok15 (F:Fun K "prize_gaps" "prize_gaps" s_15 f fd) (T:Txt K mg CT CS) (c_14:Callee P w K mg base "prize_shares" 1 ["told","shares","lot"] (spPrizeShares K CT)):FnOk P w K mg base CX0 2 f fd ["told","shares","first","second"] (spPrizeGaps K CT):=by
 refine F.ok sc15 (fun vs H Q E h=>by obtain ⟨_,_,_,_,_,_,_,rfl,_⟩:=h;rfl) (fun cdv A outer s H vs Q E hr h=>?_)
 obtain ⟨Z,a,sl,b,x,l,m,rfl,ht,hx,hn,hl,hm,q⟩:=h
 refine ⟨_,(pss_cons (pS 4 sc15.nd (pe_fn c_14 (rm hr) (pa_cons (pv 0) (pa_cons (pv 1) (pa_cons (pv 2) pa_nil)))))
  (pss_cons (pS 5 sc15.nd (pe_fn c_14 (rm hr) (pa_cons (pv 0) (pa_cons (pv 1) (pa_cons (pv 3) pa_nil)))))
  (pss_one (ps_ret (pe_lc (own:=[("prize",6)]) rfl sc15.nd (pi_range1 rfl T.b_range (pa_cons (pe_prizes T (pv 0)) pa_nil)) (blkOk_by (N:=["told","shares","first","second","ahead","other","prize"]) (sc:=defScope s_15) (by decide +kernel)) (fun _ _ _ _ _=>(pN 6 sc15.nd)) (fun _ _ _ _ _=>pts_nil) (fun _ _ _ _ _=>(pe_op op_sub (pe_ix (ix_listB (K:=K) rfl) (pv 4) (pv 6) (fun _ _=>rfl)) (pe_ix (ix_listB (K:=K) rfl) (pv 5) (pv 6) (fun _ _=>rfl))))))))),?_⟩
 walk_at "rd"
 have ok:=ht.ok
 have:=ok.p4
 refine ⟨Z,a,sl,b,x,l,rfl,ht,hx,hn,hl,fun p1 H1 s1 e1=>?_⟩
 walk_at "rd"
 refine ⟨Z,a,sl,b,x,m,rfl,ht.mono s1,s1.seq hx,hn,hm,fun p2 H2 s2 e2=>?_⟩
 walk_at "rd"
 refine ⟨Z,b,ht.mono (s1.trans s2),by omega,by omega,fun D hD=>?_⟩
 refine comp_of (yl_range (H1:=H2) 0 (b.prizes:Int).toNat) hD (fun i=>((gapsB b x l m).take i).map V.int) rfl (fun i hi=>sml (by simp;omega)) (fun i H v A y=>?_) (fun H s e=>?_)
 ·subst y
  have hi:i<b.prizes:=by have:=A.lt;omega
  walk_at "rd"
  have E1:=A.same _ _ (s2 _ _ e1)
  have E2:=A.same _ _ e2
  have l1:i<(Krag.sideOf b.prizes x (b.lot l)).length:=by rw [sideOf_length];exact hi
  have l2:i<(Krag.sideOf b.prizes x (b.lot m)).length:=by rw [sideOf_length];exact hi
  rw [Int.zero_add]
  refine ⟨_,SqL.of E1,_,atI_nat (nv_at l1),_,SqL.of E2,_,atI_nat (nv_at l2),?_⟩
  walk_at "rd"
  refine A.yes (Same.refl _) ?_
  have hg:(gapsB b x l m)[i]?=some ((((Krag.sideOf b.prizes x (b.lot l)).getD i 0:Nat):Int) - (((Krag.sideOf b.prizes x (b.lot m)).getD i 0:Nat):Int)):=by
   unfold gapsB gaps
   rw [List.getElem?_map,List.getElem?_range hi];rfl
  rw [take_snoc hg,List.map_append];rfl
 ·try walk_at "rd"
  rw [List.take_of_length_le (by unfold gapsB gaps;simp)] at e
  exact q D H ((s1.trans s2).trans s) e
theorem sc16:FnScope ["weights","numbers","weight","number"] ["weights","numbers"] (defScope s_16):=⟨rfl,rfl,rfl,by decide +kernel,rfl,by decide +kernel,by decide +kernel⟩
theorem ok16 (F:Fun K "weighed" "weighed" s_16 f fd) (T:Txt K mg CT CS):FnOk P w K mg base CX0 1 f fd ["weights","numbers"] (spWeighed K):=by
 refine F.ok sc16 (fun vs H Q E h=>by obtain ⟨_,_,_,_,rfl,_⟩:=h;rfl) (fun cdv A outer s H vs Q E hr h=>?_)
 obtain ⟨u,v,ws,z,rfl,hw,hz,hl,hn,hb,q⟩:=h
 refine ⟨_,(pss_one (ps_ret (pe_callB (cr_sum rfl) rfl T.b_sum boot_sum (pa_cons (pe_lc (own:=[("weight",2),("number",3)]) rfl sc16.nd (pi_zip rfl T.b_zip (pa_cons (pv 0) (pa_cons (pv 1) pa_nil))) (blkOk_by (N:=["weights","numbers","weight","number"]) (sc:=defScope s_16) (by decide +kernel)) (fun _ _ _ _ _=>(pg_tupB (K:=K) (n:=2) rfl rfl (pgs_cons (pN 2 sc16.nd) (pgs_cons (pN 3 sc16.nd) pgs_nil)))) (fun _ _ _ _ _=>pts_nil) (fun _ _ _ _ _=>(pe_op op_mul (pv 2) (pv 3)))) pa_nil)))),?_⟩
 walk_at "rd"
 refine ⟨⟨_,hw⟩,⟨_,hz⟩,fun D hD=>?_⟩
 refine comp_of (yl_zip hw hz (by rw [List.length_map,nv_length];exact hl)) hD (fun i=>((List.zipWith (fun a b=>a * b) ws (ni z)).take i).map V.int) rfl (fun i hi=>sml (by simp;simp at hi;omega)) (fun i H v A y=>?_) (fun H s e=>?_)
 ·obtain ⟨TT,y1,y2,rfl,hT,h1,h2⟩:=y
  obtain ⟨n,hn',rfl⟩:=nv_get h2
  obtain ⟨k,hk,rfl⟩:∃ k,ws[i]?=some k/\y1=V.int k:=by
   rw [List.getElem?_map] at h1
   cases e:ws[i]? with
   | none=>rw [e] at h1;cases h1
   | some k=>rw [e] at h1;exact ⟨k,rfl,(Option.some.inj h1).symm⟩
  refine gtup_of hT rfl ?_
  have:=hb n (List.mem_of_getElem? hn')
  walk_at "rd"
  refine ⟨.inr ⟨by omega,by omega⟩,A.yes (Same.refl _) ?_⟩
  have hzw:(List.zipWith (fun a b=>a * b) ws (ni z))[i]?=some (k * (n:Int)):=by
   rw [List.getElem?_zipWith,hk]
   unfold ni
   rw [List.getElem?_map,hn'];rfl
  rw [take_snoc hzw,List.map_append];rfl
 ·walk_at "rd"
  rw [List.take_of_length_le (by simp [ni_length];omega)] at e
  exact ⟨_,SqL.of e,q H s⟩
def GapsAt (H:Hp) (l:Addr) (gs:List (Nat × List Int)):Prop:=∃ as:List Addr,H l=some (.lst (as.map V.ref))/\Paired (fun a g=>∃ q,H a=some (.tup [.int (g.1:Int),.ref q])/\H q=some (.lst (g.2.map V.int))) as gs
theorem GapsAt.mono {H H':Hp} {l:Addr} {gs:List (Nat × List Int)} (h:GapsAt H l gs) (s:Same H H'):GapsAt H' l gs:=by
 obtain ⟨as,e,p⟩:=h
 exact ⟨as,s _ _ e,Paired_map p fun a g ⟨q,h1,h2⟩=>⟨q,s _ _ h1,s _ _ h2⟩⟩
def gapsOf (b:Krag.Book) (x:List Nat):List (Nat × List Int):=b.rather.map fun r=>(r.kind,gapsB b x r.a r.b)
def agreesG (g:Nat × List Int) (z:List Nat):Bool:=holdsI g.1 (dot g.2 z) 0
def spRatherGaps (K:PySem.W.Frag) (CT:Addr):Sp:=fun vs H Q _=>∃ (Z:Addr->Prop) (a sl:Addr) (b:Krag.Book) (x:List Nat),vs=[.ref a,.ref sl]/\ToldAt Z CT H a b/\SqL K H sl (nv x)/\x.length=b.n/\∀ p H',Same H H'->GapsAt H' p (gapsOf b x)->Q (.ref p) H'
def spNumbersAgree (K:PySem.W.Frag):Sp:=fun vs H Q _=>∃ (u v:Addr) (g:Nat × List Int) (z:List Nat),vs=[.int (g.1:Int),.ref u,.ref v]/\SqL K H u (g.2.map V.int)/\SqL K H v (nv z)/\g.2.length=z.length/\z.length<=1000/\(∀ n ∈ z,n<=1000)/\∀ H',Same H H'->Q (.bl (agreesG g z)) H'
def spAgreeing (K:PySem.W.Frag):Sp:=fun vs H Q _=>∃ (u v:Addr) (g:Nat × List Int) (rs:List (List Nat)),vs=[.int (g.1:Int),.ref u,.ref v]/\SqL K H u (g.2.map V.int)/\RowsAt NoZ H v rs/\rs.length<=5000/\(∀ z ∈ rs,g.2.length=z.length/\z.length<=1000/\∀ n ∈ z,n<=1000)/\∀ l H',Same H H'->RowsAt NoZ H' l (rs.filter (agreesG g))->Q (.ref l) H'
def wrongL (gs:List (Nat × List Int)) (z:List Nat):List Nat:=(List.range gs.length).filter fun i=>!agreesG (gs.getD i (0,[])) z
def spDisagreed (K:PySem.W.Frag):Sp:=fun vs H Q _=>∃ (u v:Addr) (gs:List (Nat × List Int)) (z:List Nat),vs=[.ref u,.ref v]/\GapsAt H u gs/\gs.length<=100/\SqL K H v (nv z)/\z.length<=1000/\(∀ n ∈ z,n<=1000)/\(∀ g ∈ gs,g.2.length=z.length)/\∀ l H',Same H H'->H' l=some (.lst (nv (wrongL gs z)))->Q (.ref l) H'
def spAllThatFit (K:PySem.W.Frag) (CT:Addr):Sp:=fun vs H Q _=>∃ (Z:Addr->Prop) (a sl:Addr) (b:Krag.Book) (x:List Nat),vs=[.ref a,.ref sl]/\ToldAt Z CT H a b/\SqL K H sl (nv x)/\b.shares=some x/\∀ p H',Same H H'->RowsAt NoZ H' p b.fit->Q (.ref p) H'
theorem gapsB_length (b:Krag.Book) (x:List Nat) (l m:Nat):(gapsB b x l m).length=b.prizes:=by unfold gapsB gaps;simp
theorem agrees_told (b:Krag.Book) (x:List Nat) (r:Krag.Rather) (z:List Nat):agreesG (r.kind,gapsB b x r.a r.b) z=(⟨Krag.sideOf b.prizes x (b.lot r.a),Krag.sideOf b.prizes x (b.lot r.b),r.kind⟩:Krab.Told).holds z:=
 holds_krab _ _ _ _ _ (sideOf_length _ _ _) (sideOf_length _ _ _)
theorem sc17:FnScope ["told","shares","kind","first","second"] ["told","shares"] (defScope s_17):=⟨rfl,rfl,rfl,by decide +kernel,rfl,by decide +kernel,by decide +kernel⟩
theorem ok17 (F:Fun K "rather_gaps" "rather_gaps" s_17 f fd) (T:Txt K mg CT CS) (c_15:Callee P w K mg base "prize_gaps" 2 ["told","shares","first","second"] (spPrizeGaps K CT)):FnOk P w K mg base CX0 3 f fd ["told","shares"] (spRatherGaps K CT):=by
 refine F.ok sc17 (fun vs H Q E h=>by obtain ⟨_,_,_,_,_,rfl,_⟩:=h;rfl) (fun cdv A outer s H vs Q E hr h=>?_)
 obtain ⟨Z,a,sl,b,x,rfl,ht,hx,hn,q⟩:=h
 refine ⟨_,(pss_one (ps_ret (pe_lc (own:=[("kind",2),("first",3),("second",4)]) rfl sc17.nd (pi_list (pe_rather T (pv 0))) (blkOk_by (N:=["told","shares","kind","first","second"]) (sc:=defScope s_17) (by decide +kernel)) (fun _ _ _ _ _=>(pg_tupB (K:=K) (n:=3) rfl rfl (pgs_cons (pN 2 sc17.nd) (pgs_cons (pN 3 sc17.nd) (pgs_cons (pN 4 sc17.nd) pgs_nil))))) (fun _ _ _ _ _=>pts_nil) (fun _ _ _ _ _=>(pe_tup (pa_cons (pv 2) (pa_cons (pe_fn c_15 (rm hr) (pa_cons (pv 0) (pa_cons (pv 1) (pa_cons (pv 3) (pa_cons (pv 4) pa_nil))))) pa_nil))))))),?_⟩
 walk_at "rd"
 have ok:=ht.ok
 have:=ok.r5
 refine ⟨Z,b,H,ht,Same.refl _,fun l hl=>?_⟩
 obtain ⟨z,as,e,pr⟩:=hl
 have hlen:as.length=b.rather.length:=by rw [Paired_len pr];unfold rathers;simp
 refine ⟨⟨_,SqL.of e⟩,fun D hD=>?_⟩
 refine comp_ex (yl_list (K:=K) (SqL.of e)) hD (fun i acc H'=>∃ bs:List Addr,acc=bs.map V.ref/\bs.length=i/\Paired (fun a g=>a ≠ D/\∃ q,q ≠ D/\H' a=some (.tup [.int (g.1:Int),.ref q])/\H' q=some (.lst (g.2.map V.int))) bs ((gapsOf b x).take i)) ⟨[],rfl,rfl,.nil⟩
  (fun i acc H H' ⟨bs,h1,h2,h3⟩ s=>⟨bs,h1,h2,by
   refine Paired_map h3 ?_
   rintro a g ⟨h4,q,h5,h6,h7⟩
   exact ⟨h4,q,h5,s _ _ h4 h6,s _ _ h5 h7⟩⟩) (fun i acc H' hi ⟨bs,h1,h2,h3⟩=>sml (by rw [h1,List.length_map,h2];rw [List.length_map,hlen] at hi;omega)) (fun i acc H' v A y=>?_) (fun acc H' s e2 ⟨bs,h1,h2,h3⟩=>?_)
 ·have hi:i<b.rather.length:=by have:=A.lt;rw [List.length_map,hlen] at this;exact this
  have hr:(rathers b)[i]?=some ((b.rather[i]).kind,(b.rather[i]).a,(b.rather[i]).b):=by unfold rathers;rw [List.getElem?_map,List.getElem?_eq_getElem hi];rfl
  obtain ⟨ta,h1,h2,h3⟩:=Paired_get pr hr
  have ev:v=.ref ta:=by rw [List.getElem?_map,h1] at y;exact (Option.some.inj y).symm
  subst ev
  obtain ⟨k1,k2,k3⟩:=ok.rt _ (List.getElem_mem hi)
  refine gtup_of (A.same _ _ h3) rfl ?_
  unfold trv
  walk_at "rd"
  refine ⟨Z,a,sl,b,x,_,_,rfl,ht.mono A.same,A.same.seq hx,hn,k2,k3,fun p H1 s1 e1=>?_⟩
  walk_at "rd"
  refine ⟨sml' (by decide),fun p2 n2=>?_⟩
  have s2:Same H1 (upd H1 p2 (.tup [V.int ((b.rather[i]).kind:Int),V.ref p])):=Same.new n2
  refine A.yes (s1.trans s2) ?_
  obtain ⟨bs,g1,g2,g3⟩:=A.pvs (s1.trans s2)
  have hD1:=s1 _ _ A.at_
  obtain ⟨bs0,b0,_⟩:=A.pv
  have np:p ≠ D:=fun z=>by
   rw [z,hD1,b0] at e1
   injection e1 with e1
   injection e1 with e1
   have l0:=gapsB_length b x (b.rather[i]).a (b.rather[i]).b
   rw [ints_refs e1.symm] at l0
   have:=ok.p1
   simp at l0
   omega
  refine ⟨bs++[p2],by rw [g1];simp,by simp [g2],?_⟩
  have hg:(gapsOf b x)[i]?=some ((b.rather[i]).kind,gapsB b x (b.rather[i]).a (b.rather[i]).b):=by unfold gapsOf;rw [List.getElem?_map,List.getElem?_eq_getElem hi];rfl
  rw [take_snoc hg]
  exact Paired_snoc g3 ⟨(fun z=>by rw [z,hD1] at n2;cases n2),p,np,upd_same,s2 _ _ e1⟩
 ·have e3:(gapsOf b x).take as.length=gapsOf b x:=List.take_of_length_le (by unfold gapsOf;rw [List.length_map];omega)
  rw [List.length_map,e3] at h3
  subst h1
  exact q D H' s ⟨bs,e2,Paired_map h3 fun a g ⟨_,q,_,h6,h7⟩=>⟨q,h6,h7⟩⟩
theorem sc18:FnScope ["kind","gaps","numbers"] ["kind","gaps","numbers"] (defScope s_18):=⟨rfl,rfl,rfl,by decide +kernel,rfl,by decide +kernel,by decide +kernel⟩
theorem ok18 (F:Fun K "numbers_agree" "numbers_agree" s_18 f fd) (T:Txt K mg CT CS) (c_11:Callee P w K mg base "holds" 1 ["kind","first","second"] spHolds) (c_16:Callee P w K mg base "weighed" 1 ["weights","numbers"] (spWeighed K)):FnOk P w K mg base CX0 2 f fd ["kind","gaps","numbers"] (spNumbersAgree K):=by
 refine F.ok sc18 (fun vs H Q E h=>by obtain ⟨_,_,_,_,rfl,_⟩:=h;rfl) (fun cdv A outer s H vs Q E hr h=>?_)
 obtain ⟨u,v,g,z,rfl,hu,hv,hl,hz,hb,q⟩:=h
 refine ⟨_,(pss_one (ps_ret (pe_fn c_11 (rm hr) (pa_cons (pv 0) (pa_cons (pe_fn c_16 (rm hr) (pa_cons (pv 1) (pa_cons (pv 2) pa_nil))) (pa_cons pe_int pa_nil)))))),?_⟩
 walk_at "rd"
 refine ⟨u,v,_,z,rfl,hu,hv,hl,hz,hb,fun H1 s1=>?_⟩
 exact ⟨g.1,_,_,rfl,q H1 s1⟩
theorem sc19:FnScope ["kind","gaps","rows","numbers"] ["kind","gaps","rows"] (defScope s_19):=⟨rfl,rfl,rfl,by decide +kernel,rfl,by decide +kernel,by decide +kernel⟩
theorem ok19 (F:Fun K "agreeing" "agreeing" s_19 f fd) (T:Txt K mg CT CS) (c_18:Callee P w K mg base "numbers_agree" 2 ["kind","gaps","numbers"] (spNumbersAgree K)):FnOk P w K mg base CX0 3 f fd ["kind","gaps","rows"] (spAgreeing K):=by
 refine F.ok sc19 (fun vs H Q E h=>by obtain ⟨_,_,_,_,rfl,_⟩:=h;rfl) (fun cdv A outer s H vs Q E hr h=>?_)
 obtain ⟨u,v,g,rs,rfl,hu,hv,hn,hb,q⟩:=h
 refine ⟨_,(pss_one (ps_ret (pe_lc (own:=[("numbers",3)]) rfl sc19.nd (pi_list (pv 2)) (blkOk_by (N:=["kind","gaps","rows","numbers"]) (sc:=defScope s_19) (by decide +kernel)) (fun _ _ _ _ _=>(pN 3 sc19.nd)) (fun _ _ _ _ _=>(pts_one (pt_val (pe_fn c_18 (rm hr) (pa_cons (pv 0) (pa_cons (pv 1) (pa_cons (pv 3) pa_nil))))))) (fun _ _ _ _ _=>(pv 3))))),?_⟩
 walk_at "rd"
 obtain ⟨prs,e1,e2,e3⟩:=hv.prs
 refine ⟨⟨_,SqL.of e2⟩,fun D hD=>?_⟩
 have hpl:prs.length<=5000:=by rw [e1,List.length_map] at hn;exact hn
 refine comp_of (yl_list (K:=K) (SqL.of e2)) hD (fun i=>((prs.take i).filter fun p=>agreesG g p.2).map fun p=>V.ref p.1) rfl (fun i hi=>sml ?_) (fun i H v A y=>?_) (fun H s e=>?_)
 ·rw [List.length_map]
  exact Nat.le_trans (List.length_filter_le _ _) (by rw [List.length_take];omega)
 ·obtain ⟨pr,hpr,rfl⟩:∃ pr,prs[i]?=some pr/\v=V.ref pr.1:=by
   rw [List.getElem?_map] at y
   cases e:prs[i]? with
   | none=>rw [e] at y;cases y
   | some pr=>rw [e] at y;exact ⟨pr,rfl,(Option.some.inj y).symm⟩
  have hm:=List.mem_of_getElem? hpr
  obtain ⟨b1,b2,b3⟩:=hb pr.2 (by rw [e1];exact List.mem_map.mpr ⟨pr,hm,rfl⟩)
  walk_at "rd"
  refine ⟨u,pr.1,g,pr.2,rfl,A.same.seq hu,SqL.of (A.same _ _ (e3 pr hm)),b1,b2,b3,fun H1 s1=>?_⟩
  walk_at "rd"
  by_cases ha:agreesG g pr.2=true
  ·rw [if_pos ha]
   refine A.yes s1 ?_
   rw [take_snoc hpr,List.filter_append,List.map_append]
   simp [ha]
  ·rw [if_neg ha]
   refine A.no s1 ?_
   rw [take_snoc hpr,List.filter_append,List.map_append]
   simp [ha]
 ·rw [List.length_map,List.take_length] at e
  have:=rowsAt_of (prs.filter fun p=>agreesG g p.2) e fun p hp=>s _ _ (e3 p (List.mem_filter.mp hp).1)
  have e4:((prs.filter fun p=>agreesG g p.2).map (·.2))=rs.filter (agreesG g):=by rw [e1,List.filter_map];rfl
  rw [e4] at this
  exact q D H s this
theorem sc20:FnScope ["tellings","numbers","place","one"] ["tellings","numbers"] (defScope s_20):=⟨rfl,rfl,rfl,by decide +kernel,rfl,by decide +kernel,by decide +kernel⟩
theorem ok20 (F:Fun K "disagreed_with" "disagreed_with" s_20 f fd) (T:Txt K mg CT CS) (c_18:Callee P w K mg base "numbers_agree" 2 ["kind","gaps","numbers"] (spNumbersAgree K)):FnOk P w K mg base CX0 3 f fd ["tellings","numbers"] (spDisagreed K):=by
 refine F.ok sc20 (fun vs H Q E h=>by obtain ⟨_,_,_,_,rfl,_⟩:=h;rfl) (fun cdv A outer s H vs Q E hr h=>?_)
 obtain ⟨u,v,gs,z,rfl,⟨as,e1,pr⟩,hn,hv,hz,hb,hg,q⟩:=h
 refine ⟨_,(pss_one (ps_ret (pe_lc (own:=[("place",2),("one",3)]) rfl sc20.nd (pi_enum rfl T.b_enumerate (pa_cons (pv 0) pa_nil)) (blkOk_by (N:=["tellings","numbers","place","one"]) (sc:=defScope s_20) (by decide +kernel)) (fun _ _ _ _ _=>(pg_tupB (K:=K) (n:=2) rfl rfl (pgs_cons (pN 2 sc20.nd) (pgs_cons (pN 3 sc20.nd) pgs_nil)))) (fun _ _ _ _ _=>(pts_one (pt_not (pt_val (pe_fn c_18 (rm hr) (pa_cons (pe_ix (ix_tupB (K:=K) rfl) (pv 3) pe_int (fun _ _=>rfl)) (pa_cons (pe_ix (ix_tupB (K:=K) rfl) (pv 3) pe_int (fun _ _=>rfl)) (pa_cons (pv 1) pa_nil)))))))) (fun _ _ _ _ _=>(pv 2))))),?_⟩
 walk_at "rd"
 have hlen:=Paired_len pr
 refine ⟨⟨_,SqL.of e1⟩,fun D hD=>?_⟩
 refine comp_of (yl_enum (K:=K) (SqL.of e1)) hD (fun i=>nv ((List.range i).filter fun i=>!agreesG (gs.getD i (0,[])) z)) rfl (fun i hi=>sml ?_) (fun i H v A y=>?_) (fun H s e=>?_)
 ·rw [nv_length]
  rw [List.length_map] at hi
  exact Nat.le_trans (List.length_filter_le _ _) (by rw [List.length_range];omega)
 ·obtain ⟨TT,y,rfl,hT,hy⟩:=y
  have hi:i<gs.length:=by have:=A.lt;rw [List.length_map] at this;omega
  obtain ⟨ga,h1,qa,h2,h3⟩:=Paired_get (i:=i) (b:=gs.getD i (0,[])) pr (by rw [List.getD_eq_getElem?_getD,List.getElem?_eq_getElem hi];rfl)
  have ey:y=.ref ga:=by rw [List.getElem?_map,h1] at hy;exact (Option.some.inj hy).symm
  subst ey
  refine gtup_of hT rfl ?_
  walk_at "rd"
  have e3:=A.same _ _ h2
  have e4:=A.same _ _ h3
  have hm:gs.getD i (0,[]) ∈ gs:=by rw [List.getD_eq_getElem?_getD,List.getElem?_eq_getElem hi];exact List.getElem_mem hi
  refine ⟨_,SqT.of e3,_,rfl,_,SqT.of e3,_,rfl,?_⟩
  refine ⟨qa,_,gs.getD i (0,[]),z,rfl,SqL.of e4,A.same.seq hv,hg _ hm,hz,hb,fun H1 s1=>?_⟩
  walk_at "rd"
  by_cases ha:agreesG (gs.getD i (0,[])) z=true
  ·rw [if_neg (by rw [ha];simp)]
   refine A.no s1 ?_
   rw [filter_range_no (by rw [ha];rfl)]
  ·rw [if_pos (by simpa using ha)]
   refine A.yes s1 ?_
   rw [filter_range_yes (by simpa using ha),nv_snoc]
 ·rw [List.length_map,hlen] at e
  exact q D H s e
theorem sc21:FnScope ["told","shares","found","kind","gaps"] ["told","shares"] (defScope s_21):=⟨rfl,rfl,rfl,by decide +kernel,rfl,by decide +kernel,by decide +kernel⟩
theorem ok21 (F:Fun K "all_that_fit" "all_that_fit" s_21 f fd) (T:Txt K mg CT CS) (c_13:Callee P w K mg base "all_numbers" 1 ["prizes"] spAllNumbers) (c_17:Callee P w K mg base "rather_gaps" 3 ["told","shares"] (spRatherGaps K CT)) (c_19:Callee P w K mg base "agreeing" 3 ["kind","gaps","rows"] (spAgreeing K)):FnOk P w K mg base CX0 4 f fd ["told","shares"] (spAllThatFit K CT):=by
 refine F.ok sc21 (fun vs H Q E h=>by obtain ⟨_,_,_,_,_,rfl,_⟩:=h;rfl) (fun cdv A outer s H vs Q E hr h=>?_)
 obtain ⟨Z,a,sl,b,x,rfl,ht,hx,hs,q⟩:=h
 refine ⟨_,(pss_cons (pS 2 sc21.nd (pe_fn c_13 (rm hr) (pa_cons (pe_prizes T (pv 0)) pa_nil)))
  (pss_cons (ps_for PassesOwn.never rfl (pi_list (pe_fn c_17 (rm hr) (pa_cons (pv 0) (pa_cons (pv 1) pa_nil)))) (pg_tup (n:=2) rfl (pgs_cons (pN 3 sc21.nd) (pgs_cons (pN 4 sc21.nd) pgs_nil)))
   (pss_one (pS 2 sc21.nd (pe_fn c_19 (rm hr) (pa_cons (pv 3) (pa_cons (pv 4) (pa_cons (pv 2) pa_nil)))))))
  (pss_one (ps_ret (pv 2))))),?_⟩
 walk_at "rd"
 have ok:=ht.ok
 have:=ok.r5
 have:=ok.p4
 obtain ⟨x1,x2,x3,x4⟩:=shares_facts hs
 refine ⟨Z,b,ht,b.prizes,rfl,ok.p4,fun l1 H1 s1 r1=>?_⟩
 walk_at "rd"
 refine ⟨Z,a,sl,b,x,rfl,ht.mono s1,s1.seq hx,x1,fun l2 H2 s2 g2=>?_⟩
 walk_at "rd"
 obtain ⟨as,e1,pr⟩:=g2
 have hlen:=Paired_len pr
 obtain ⟨Pv,hPv⟩:∃ Pv:Nat->L2.St->Hp->Prop,∀ i σ H',Pv i σ H' ↔ (Same H2 H'/\∃ (l:Addr) (o3 o4:Option V),σ=[some (.ref a),some (.ref sl),some (.ref l),o3,o4]/\RowsAt NoZ H' l ((Krab.rows b.prizes).filter fun z=>((gapsOf b x).take i).all fun g=>agreesG g z)):=⟨_,fun _ _ _=>Iff.rfl⟩
 refine ⟨⟨_,SqL.of e1⟩,loop_of (yl_list (K:=K) (SqL.of e1)) Pv (fun i σ H' h=>((hPv _ _ _).mp h).1) ((hPv _ _ _).mpr ⟨Same.refl _,l1,none,none,rfl,?_⟩) (fun i σ H' H2 h s=>by
  obtain ⟨h1,l,o4,o5,h2,h3⟩:=(hPv _ _ _).mp h
  exact (hPv _ _ _).mpr ⟨h1.trans s,l,o4,o5,h2,h3.mono (s.z _)⟩) ?_ ?_⟩
 ·have:((Krab.rows b.prizes).filter fun z=>((gapsOf b x).take 0).all fun g=>agreesG g z)=Krab.rows b.prizes:=by rw [List.filter_eq_self];intro z _;rfl
  rw [this]
  exact r1.mono (s2.z _)
 ·intro i σ H' v hi h y
  obtain ⟨s3,l,o3,o4,rfl,hr1⟩:=(hPv _ _ _).mp h
  have hi:i<(gapsOf b x).length:=by rw [List.length_map] at hi;omega
  obtain ⟨ga,h1,qa,h2,h3⟩:=Paired_get (i:=i) (b:=(gapsOf b x)[i]) pr (List.getElem?_eq_getElem hi)
  have ev:v=.ref ga:=by rw [List.getElem?_map,h1] at y;exact (Option.some.inj y).symm
  subst ev
  refine gtup_of (s3 _ _ h2) rfl ?_
  walk_at "rd"
  refine ⟨qa,l,(gapsOf b x)[i],_,rfl,SqL.of (s3 _ _ h3),hr1,?_,?_,fun l3 H3 s4 r3=>?_⟩
  ·refine Nat.le_trans (List.length_filter_le _ _) ?_
   rw [rows_count]
   exact Nat.le_trans (Nat.pow_le_pow_right (by decide) ok.p4) (by decide)
  ·intro z hz
   have hz:=(List.mem_filter.mp hz).1
   have hl:((gapsOf b x)[i]).2.length=b.prizes:=by
    obtain ⟨r,_,er⟩:=List.mem_map.mp (show (gapsOf b x)[i] ∈ b.rather.map fun r=>(r.kind,gapsB b x r.a r.b) from List.getElem_mem hi)
    rw [<-er]
    exact gapsB_length _ _ _ _
   have h9:=rows_len hz
   exact ⟨by rw [hl,h9],by omega,fun n hn=>by have:=rows_in hz n hn;omega⟩
  ·walk_at "rd"
   refine (hPv _ _ _).mpr ⟨s3.trans s4,l3,_,_,rfl,?_⟩
   rw [List.filter_filter] at r3
   have e5:((Krab.rows b.prizes).filter fun z=>agreesG (gapsOf b x)[i] z && ((gapsOf b x).take i).all fun g=>agreesG g z)=(Krab.rows b.prizes).filter fun z=>((gapsOf b x).take (i+1)).all fun g=>agreesG g z:=by
    apply List.filter_congr
    intro z _
    rw [take_snoc (List.getElem?_eq_getElem hi),List.all_append,Bool.and_comm]
    simp
   rw [e5] at r3
   exact r3
 ·intro σ H' h
  obtain ⟨s3,l,o3,o4,rfl,hr1⟩:=(hPv _ _ _).mp h
  walk_at "rd"
  have e5:((Krab.rows b.prizes).filter fun z=>((gapsOf b x).take (as.map V.ref).length).all fun g=>agreesG g z)=b.fit:=by
   rw [book_fit hs,List.length_map,hlen,List.take_length]
   apply List.filter_congr
   intro z _
   unfold gapsOf Krag.Book.told
   rw [List.all_map,List.all_map]
   congr 1
   funext r
   exact agrees_told b x r z
  rw [e5] at hr1
  exact q l H' ((s1.trans s2).trans s3) hr1
def spSplits (p:Nat):Sp:=fun vs H Q _=>∃ (t:Nat),vs=[.int (t:Int),.int (p:Int)]/\t<=10/\∀ l H',H l=none->Same H H'->RowsAt NoZ H' l (Krae.rowsOf p t)->Q (.ref l) H'
def spSetShare (K:PySem.W.Frag):Sp:=fun vs H Q _=>∃ (l:Addr) (x:List Nat) (c:Nat),vs=[.ref l,.int (c:Int)]/\SqL K H l (nv x)/\x.length<=1000/\∀ H',Same H H'->Q (.int (Krae.of x c:Nat)) H'
def agreesT (x:List Nat) (t:Trip):Bool:=holdsI t.1 (Krae.of x t.2.1:Nat) (Krae.of x t.2.2:Nat)
def spSharesAgree (K:PySem.W.Frag):Sp:=fun vs H Q _=>∃ (Z:Addr->Prop) (l sl:Addr) (ts:List Trip) (x:List Nat),vs=[.ref l,.ref sl]/\TripsAt Z H l ts/\SqL K H sl (nv x)/\x.length<=1000/\∀ H',Same H H'->Q (.bl (ts.all (agreesT x))) H'
def spChances (CT:Addr):Sp:=fun vs H Q _=>∃ (Z:Addr->Prop) (a:Addr) (b:Krag.Book),vs=[.ref a]/\ToldAt Z CT H a b/\(b.shares=none->∀ H',Same H H'->Q .non H')/\∀ x,b.shares=some x->∀ p H',Same H H'->H' p=some (.lst (nv x))->Q (.ref p) H'
theorem rowsOf_small {p t:Nat} (hp:p<=3) (ht:t<=10):(Krae.rowsOf p t).length<=1331:=by
 refine Nat.le_trans (rowsOf_count p t) ?_
 refine Nat.le_trans (Nat.pow_le_pow_left (show t+1<=11 by omega) p) ?_
 exact Nat.le_trans (Nat.pow_le_pow_right (by decide) hp) (by decide)
theorem nv_refs' {ws:List Nat} {qs:List (Addr × List Nat)} (h:qs.map (fun p=>V.ref p.1)=nv ws):ws=[]:=nv_refs (bs:=qs.map (·.1)) (by rw [<-h,List.map_map];rfl)
theorem has_testBit (c i:Nat):Krae.has c i=c.testBit i:=has_eq c i
theorem sc47:FnScope ["total","parts","found","first","rest"] ["total","parts"] (defScope s_47):=⟨rfl,rfl,rfl,by decide +kernel,rfl,by decide +kernel,by decide +kernel⟩
theorem ok47 (F:Fun K "splits" "splits" s_47 f fd) (T:Txt K mg CT CS) (bd:Binds K fd ["total","parts"] []) (m:mg "splits"=some (.ref f)):∀ p,p<=3->FnOk P w K mg base CX0 (p+1) f fd ["total","parts"] (spSplits (p+1))
 | 0,_=>by
  refine F.ok sc47 (fun vs H Q E h=>by obtain ⟨_,rfl,_⟩:=h;rfl) (fun cdv A outer s H vs Q E hr h=>?_)
  obtain ⟨t,rfl,ht,q⟩:=h
  refine ⟨_,(pss_cons (ps_if (pt_cmpR op_eq (pv 1) pe_int (nomark _)) (pss_one (ps_ret (pe_lst (pa_cons (pe_lst (pa_cons (pv 0) pa_nil)) pa_nil)))) pss_nil) pss_never),?_⟩
  walk_at "rd"
  refine ite2 (fun _=>⟨sml' (by decide),fun p1 n1=>⟨sml' (by decide),fun p2 n2=>?_⟩⟩) (fun z=>absurd rfl z)
  refine q p2 _ ((Same.new n1).free n2) ((Same.new n1).trans (Same.new n2)) ?_
  rw [rowsOf_one]
  exact rowsAt_of [(p1,[t])] upd_same fun pp hp=>by
   have e:pp=(p1,[t]):=by simpa using hp
   subst e
   rw [upd_ne (ne_of_none upd_same n2),upd_same]
   rfl
 | p+1,hp=>by
  have c_47:Callee P w K mg base "splits" (p+1) ["total","parts"] (spSplits (p+1)):=⟨f,fd,ok47 F T bd m p (by omega),bd,m,F.kp⟩
  refine F.ok sc47 (fun vs H Q E h=>by obtain ⟨_,rfl,_⟩:=h;rfl) (fun cdv A outer s H vs Q E hr h=>?_)
  obtain ⟨t,rfl,ht,q⟩:=h
  refine ⟨_,(pss_cons (ps_if (pt_cmpR op_eq (pv 1) pe_int (nomark _)) (pss_one (ps_ret (pe_lst (pa_cons (pe_lst (pa_cons (pv 0) pa_nil)) pa_nil)))) pss_nil)
  (pss_cons (pS 2 sc47.nd (pe_lst pa_nil))
  (pss_cons (ps_for PassesOwn.never rfl (pi_range1 rfl T.b_range (pa_cons (pe_op op_add (pv 0) pe_int) pa_nil)) (pN 3 sc47.nd)
   (pss_one (ps_for PassesOwn.never rfl (pi_list (pe_fn c_47 (rm hr) (pa_cons (pe_op op_sub (pv 0) (pv 3)) (pa_cons (pe_op op_sub (pv 1) pe_int) pa_nil)))) (pN 4 sc47.nd)
   (pss_one (ps_expr (pe_bm PySem.F.plainAttrs_list PySem.F.slot_list_append PySem.F.type_list_append mt_append (pv 2) (pa_cons (pe_op op_cat (pe_lst (pa_cons (pv 3) pa_nil)) (pv 4)) pa_nil)))))))
  (pss_one (ps_ret (pv 2)))))),?_⟩
  walk_at "rd"
  refine ite2 (fun z=>by omega) (fun _=>⟨sml' (by decide),fun D nD=>⟨by omega,by omega,?_⟩⟩)
  obtain ⟨Pv,hPv⟩:∃ Pv:Nat->L2.St->Hp->Prop,∀ i σ H',Pv i σ H' ↔ (Same H H'/\∃ (o3 o4:Option V) (qs:List (Addr × List Nat)),σ=[some (.int (t:Int)),some (.int ((p+1+1:Nat):Int)),some (.ref D),o3,o4]/\H' D=some (.lst (qs.map fun p=>V.ref p.1))/\qs.map (·.2)=(List.range i).flatMap (fun x=>(Krae.rowsOf (p+1) (t - x)).map fun r=>x::r)/\∀ p ∈ qs,p.1 ≠ D/\H' p.1=some (.lst (nv p.2))):=⟨_,fun _ _ _=>Iff.rfl⟩
  refine loop_of (yl_range (H1:=H) 0 ((t:Int)+1).toNat) Pv (fun i σ H' h=>((hPv _ _ _).mp h).1) ((hPv _ _ _).mpr ⟨Same.new nD,none,none,[],rfl,upd_same,rfl,fun p hp=>by cases hp⟩) (fun i σ H' H2 h s=>by
   obtain ⟨h1,o3,o4,qs,h2,h3,h4,h5⟩:=(hPv _ _ _).mp h
   exact (hPv _ _ _).mpr ⟨h1.trans s,o3,o4,qs,h2,s _ _ h3,h4,fun p hp=>⟨(h5 p hp).1,s _ _ (h5 p hp).2⟩⟩) ?_ ?_
  ·intro i σ H' v hi h y
   obtain ⟨s1,o3,o4,qs,rfl,hD,hq,hqs⟩:=(hPv _ _ _).mp h
   subst y
   have hi:i<=t:=by omega
   walk_at "rd"
   rw [show (t:Int) - (0+(i:Int))=((t - i:Nat):Int) by omega,show ((p+1+1:Nat):Int) - 1=((p+1:Nat):Int) by omega]
   refine ⟨t - i,rfl,by omega,fun l1 H1 nl s2 r1=>?_⟩
   walk_at "rd"
   obtain ⟨prs,e1,e2,e3⟩:=r1.prs
   have hD1:=s2 _ _ hD
   have nl1:l1 ≠ D:=fun z=>by rw [z,hD] at nl;cases nl
   have hrl:∀ pr ∈ prs,pr.2.length=p+1:=fun pr hpr=>rowsOf_len (t:=t - i) (by rw [e1];exact List.mem_map.mpr ⟨pr,hpr,rfl⟩)
   have hqn:qs.length<=20000:=by
    have:=congrArg List.length hq
    rw [List.length_map,List.length_flatMap] at this
    simp only [List.length_map] at this
    have h9:∀ m,((List.range m).map fun x=>(Krae.rowsOf (p+1) (t - x)).length).sum<=m * 1331:=by
     intro m
     induction m with
     | zero=>simp
     | succ m ih=>
      rw [List.range_succ,List.map_append,List.sum_append]
      have:=rowsOf_small (p:=p+1) (t:=t - m) (by omega) (by omega)
      simp only [List.map_cons,List.map_nil,List.sum_cons,List.sum_nil]
      omega
    have:=h9 i
    omega
   have hpn:prs.length<=1331:=by
    have:=rowsOf_small (p:=p+1) (t:=t - i) (by omega) (by omega)
    rw [e1,List.length_map] at this
    exact this
   refine ⟨⟨_,SqL.of e2⟩,?_⟩
   obtain ⟨Pw,hPw⟩:∃ Pw:Nat->L2.St->Hp->Prop,∀ j σ H2,Pw j σ H2 ↔ (Same H H2/\(∀ b o,b ≠ D->H1 b=some o->H2 b=some o)/\∃ (o4:Option V) (qs:List (Addr × List Nat)),σ=[some (.int (t:Int)),some (.int ((p+1+1:Nat):Int)),some (.ref D),some (.int (0+(i:Int))),o4]/\H2 D=some (.lst (qs.map fun p=>V.ref p.1))/\qs.map (·.2)=(List.range i).flatMap (fun x=>(Krae.rowsOf (p+1) (t - x)).map fun r=>x::r)++((prs.map (·.2)).take j).map (fun r=>i::r)/\(∀ p ∈ qs,p.1 ≠ D/\H2 p.1=some (.lst (nv p.2)))):=⟨_,fun _ _ _=>Iff.rfl⟩
   refine loop_list (K:=K) (xs:=prs.map fun p=>V.ref p.1) Pw ((hPw _ _ _).mpr ⟨s1.trans s2,fun b o _ h=>h,o4,qs,rfl,hD1,by simpa using hq,fun p hp=>⟨(hqs p hp).1,s2 _ _ (hqs p hp).2⟩⟩) (fun j σ H2 _ h=>SqL.of (((hPw _ _ _).mp h).2.1 _ _ nl1 e2)) ?_ ?_
   ·intro j v σ H2 hv h
    obtain ⟨s3,k3,o4,qs,rfl,hD2,hq2,hqs2⟩:=(hPw _ _ _).mp h
    obtain ⟨pr,hpr,rfl⟩:∃ pr,prs[j]?=some pr/\v=V.ref pr.1:=by
     rw [List.getElem?_map] at hv
     cases e:prs[j]? with
     | none=>rw [e] at hv;cases hv
     | some pr=>rw [e] at hv;exact ⟨pr,rfl,(Option.some.inj hv).symm⟩
    have hm:=List.mem_of_getElem? hpr
    have hprD:pr.1 ≠ D:=fun z=>by
     have h8:=e3 pr hm
     rw [z,hD1] at h8
     injection h8 with h8
     injection h8 with h8
     have h7:pr.2=[]:=nv_refs' h8
     have:=hrl pr hm
     rw [h7] at this
     simp at this
    have hat:=k3 _ _ hprD (e3 pr hm)
    have hlr:=hrl pr hm
    have hql:qs.length<=30000:=by
     have h7:=congrArg List.length hq2
     have h6:=congrArg List.length hq
     rw [List.length_map] at h7 h6
     rw [List.length_append,<-h6,List.length_map,List.length_take,List.length_map] at h7
     omega
    walk_at "rd"
    refine ⟨.inl ⟨rfl,_,SqL.of hD2⟩,sml' (by decide),fun p1 m1=>⟨_,upd_same,_,Same.new m1 _ _ hat,sml' (by rw [nv_length];simp;omega),fun p2 m2=>?_⟩⟩
    have q1:Same H2 (upd H2 p1 (.lst [V.int (0+(i:Int))])):=Same.new m1
    have q2:Same H2 (upd (upd H2 p1 (.lst [V.int (0+(i:Int))])) p2 (.lst (V.int (0+(i:Int))::nv pr.2))):=q1.trans (Same.new m2)
    have n2:p2 ≠ D:=fun z=>by
     have:=q1 _ _ hD2
     rw [<-z,m2] at this;cases this
    refine ⟨_,q2 _ _ hD2,sml (by rw [List.length_map];omega),(hPw _ _ _).mpr ⟨(s3.trans q2).put nD,fun b o hb h=>?_,_,qs++[(p2,i::pr.2)],rfl,?_,?_,?_⟩⟩
    ·rw [upd_ne hb];exact q2 _ _ (k3 _ _ hb h)
    ·rw [upd_same,List.map_append];rfl
    ·have hj:(prs.map (·.2))[j]?=some pr.2:=by rw [List.getElem?_map,hpr];rfl
     rw [List.map_append,hq2,take_snoc hj,List.map_append,List.append_assoc];rfl
    ·intro pp hpp
     rcases List.mem_append.mp hpp with hpp | hpp
     ·obtain ⟨c1,c2⟩:=hqs2 pp hpp
      exact ⟨c1,by rw [upd_ne c1];exact q2 _ _ c2⟩
     ·have e:pp=(p2,i::pr.2):=by simpa using hpp
      subst e
      refine ⟨n2,?_⟩
      rw [upd_ne n2,upd_same,Int.zero_add]
      rfl
   ·intro σ H2 h
    obtain ⟨s3,k3,o4,qs,rfl,hD2,hq2,hqs2⟩:=(hPw _ _ _).mp h
    refine (hPv _ _ _).mpr ⟨s3,_,_,qs,rfl,hD2,?_,hqs2⟩
    rw [hq2,List.range_succ,List.flatMap_append,List.length_map,show prs.length=(prs.map (·.2)).length by simp,List.take_length,<-e1]
    simp
  ·intro σ H' h
   obtain ⟨s1,o3,o4,qs,rfl,hD,hq,hqs⟩:=(hPv _ _ _).mp h
   walk_at "rd"
   refine q D H' nD s1 ?_
   have:=rowsAt_of qs hD fun p hp=>(hqs p hp).2
   rw [hq,show ((t:Int)+1).toNat=t+1 by omega,<-rowsOf_succ] at this
   exact this
theorem sc48:FnScope ["shares","chosen","world","share"] ["shares","chosen"] (defScope s_48):=⟨rfl,rfl,rfl,by decide +kernel,rfl,by decide +kernel,by decide +kernel⟩
theorem ok48 (F:Fun K "set_share" "set_share" s_48 f fd) (T:Txt K mg CT CS) (c_22:Callee P w K mg base "is_member" 1 ["chosen","place"] spIsMember):FnOk P w K mg base CX0 2 f fd ["shares","chosen"] (spSetShare K):=by
 refine F.ok sc48 (fun vs H Q E h=>by obtain ⟨_,_,_,rfl,_⟩:=h;rfl) (fun cdv A outer s H vs Q E hr h=>?_)
 obtain ⟨l,x,c,rfl,hx,hn,q⟩:=h
 refine ⟨_,(pss_one (ps_ret (pe_callB (cr_sum rfl) rfl T.b_sum boot_sum (pa_cons (pe_lc (own:=[("world",2),("share",3)]) rfl sc48.nd (pi_enum rfl T.b_enumerate (pa_cons (pv 0) pa_nil)) (blkOk_by (N:=["shares","chosen","world","share"]) (sc:=defScope s_48) (by decide +kernel)) (fun _ _ _ _ _=>(pg_tupB (K:=K) (n:=2) rfl rfl (pgs_cons (pN 2 sc48.nd) (pgs_cons (pN 3 sc48.nd) pgs_nil)))) (fun _ _ _ _ _=>(pts_one (pt_val (pe_fn c_22 (rm hr) (pa_cons (pv 1) (pa_cons (pv 2) pa_nil)))))) (fun _ _ _ _ _=>(pv 3))) pa_nil)))),?_⟩
 walk_at "rd"
 refine ⟨⟨_,hx⟩,fun D hD=>?_⟩
 refine comp_of (yl_enum hx) hD (fun i=>nv (((List.range i).filter fun i=>Krae.has c i).map fun i=>x.getD i 0)) rfl (fun i hi=>sml ?_) (fun i H v A y=>?_) (fun H s e=>?_)
 ·rw [nv_length,List.length_map]
  rw [nv_length] at hi
  exact Nat.le_trans (List.length_filter_le _ _) (by rw [List.length_range];omega)
 ·obtain ⟨TT,y,rfl,hT,hy⟩:=y
  obtain ⟨n,hn',rfl⟩:=nv_get hy
  refine gtup_of hT rfl ?_
  walk_at "rd"
  refine ⟨c,i,rfl,?_⟩
  walk_at "rd"
  by_cases hb:c.testBit i=true
  ·rw [if_pos hb]
   refine A.yes (Same.refl _) ?_
   rw [filter_range_yes (by rw [has_testBit];exact hb),List.map_append,nv_append,<-getD_of hn']
   rfl
  ·rw [if_neg hb]
   refine A.no (Same.refl _) ?_
   rw [filter_range_no (by rw [has_testBit];simpa using hb)]
 ·walk_at "rd"
  rw [nv_length,nv_ni] at e
  refine ⟨_,SqL.of e,?_⟩
  rw [ni_sum,<-of_eq]
  exact q H s
theorem sc49:FnScope ["likelier","shares","kind","first","second"] ["likelier","shares"] (defScope s_49):=⟨rfl,rfl,rfl,by decide +kernel,rfl,by decide +kernel,by decide +kernel⟩
theorem ok49 (F:Fun K "shares_agree" "shares_agree" s_49 f fd) (T:Txt K mg CT CS) (c_11:Callee P w K mg base "holds" 1 ["kind","first","second"] spHolds) (c_48:Callee P w K mg base "set_share" 2 ["shares","chosen"] (spSetShare K)):FnOk P w K mg base CX0 3 f fd ["likelier","shares"] (spSharesAgree K):=by
 refine F.ok sc49 (fun vs H Q E h=>by obtain ⟨_,_,_,_,_,rfl,_⟩:=h;rfl) (fun cdv A outer s H vs Q E hr h=>?_)
 obtain ⟨Z,l,sl,ts,x,rfl,⟨z,as,e1,pr⟩,hx,hn,q⟩:=h
 refine ⟨_,(pss_cons (ps_for PassesOwn.never rfl (pi_list (pv 0)) (pg_tup (n:=3) rfl (pgs_cons (pN 2 sc49.nd) (pgs_cons (pN 3 sc49.nd) (pgs_cons (pN 4 sc49.nd) pgs_nil))))
   (pss_one (ps_if (pt_not (pt_val (pe_fn c_11 (rm hr) (pa_cons (pv 2) (pa_cons (pe_fn c_48 (rm hr) (pa_cons (pv 1) (pa_cons (pv 3) pa_nil))) (pa_cons (pe_fn c_48 (rm hr) (pa_cons (pv 1) (pa_cons (pv 4) pa_nil))) pa_nil)))))) (pss_one (ps_ret pe_bl)) pss_nil)))
  (pss_one (ps_ret pe_bl))),?_⟩
 walk_at "rd"
 have hlen:=Paired_len pr
 obtain ⟨Pv,hPv⟩:∃ Pv:Nat->L2.St->Hp->Prop,∀ i σ H',Pv i σ H' ↔ (Same H H'/\∃ (o2 o3 o4:Option V),σ=[some (.ref l),some (.ref sl),o2,o3,o4]/\(ts.take i).all (agreesT x)=true):=⟨_,fun _ _ _=>Iff.rfl⟩
 refine ⟨⟨_,SqL.of e1⟩,loop_of (yl_list (K:=K) (SqL.of e1)) Pv (fun i σ H' h=>((hPv _ _ _).mp h).1) ((hPv _ _ _).mpr ⟨Same.refl _,none,none,none,rfl,rfl⟩) (fun i σ H' H2 h s=>by
  obtain ⟨h1,o2,o3,o4,h2,h3⟩:=(hPv _ _ _).mp h
  exact (hPv _ _ _).mpr ⟨h1.trans s,o2,o3,o4,h2,h3⟩) ?_ ?_⟩
 ·intro i σ H' v hi h y
  obtain ⟨s1,o2,o3,o4,rfl,ha⟩:=(hPv _ _ _).mp h
  have hi:i<ts.length:=by rw [List.length_map] at hi;omega
  obtain ⟨ta,h1,h2,h3⟩:=Paired_get pr (List.getElem?_eq_getElem hi)
  have ev:v=.ref ta:=by rw [List.getElem?_map,h1] at y;exact (Option.some.inj y).symm
  subst ev
  refine gtup_of (s1 _ _ h3) rfl ?_
  unfold trv
  walk_at "rd"
  refine ⟨sl,x,_,rfl,s1.seq hx,hn,fun H1 s2=>?_⟩
  refine ⟨sl,x,_,rfl,(s1.trans s2).seq hx,hn,fun H2 s3=>?_⟩
  refine ⟨_,_,_,rfl,?_⟩
  walk_at "rd"
  by_cases hb:agreesT x ts[i]=true
  ·have hb':=hb
   unfold agreesT at hb'
   rw [if_neg (by rw [hb'];simp)]
   refine (hPv _ _ _).mpr ⟨(s1.trans s2).trans s3,_,_,_,rfl,?_⟩
   rw [take_snoc (List.getElem?_eq_getElem hi),List.all_append,ha]
   simpa using hb
  ·have hb':holdsI ts[i].1 (Krae.of x ts[i].2.1:Nat) (Krae.of x ts[i].2.2:Nat)=false:=by simpa [agreesT] using hb
   rw [if_pos hb']
   have:ts.all (agreesT x)=false:=by
    rw [List.all_eq_false]
    exact ⟨ts[i],List.getElem_mem hi,hb⟩
   rw [<-this]
   exact q H2 ((s1.trans s2).trans s3)
 ·intro σ H' h
  obtain ⟨s1,o2,o3,o4,rfl,ha⟩:=(hPv _ _ _).mp h
  walk_at "rd"
  rw [List.length_map,hlen,List.take_length] at ha
  rw [<-ha]
  exact q H' s1
theorem sc50:FnScope ["told","total","shares"] ["told"] (defScope s_50):=⟨rfl,rfl,rfl,by decide +kernel,rfl,by decide +kernel,by decide +kernel⟩
theorem ok50 (F:Fun K "chances_gone_by" "chances_gone_by" s_50 f fd) (T:Txt K mg CT CS) (c_47:∀ p,1<=p->p<=4->Callee P w K mg base "splits" 4 ["total","parts"] (spSplits p)) (c_49:Callee P w K mg base "shares_agree" 3 ["likelier","shares"] (spSharesAgree K)):FnOk P w K mg base CX0 5 f fd ["told"] (spChances CT):=by
 refine F.ok sc50 (fun vs H Q E h=>by obtain ⟨_,_,_,rfl,_⟩:=h;rfl) (fun cdv A outer s H vs Q E hr h=>?_)
 obtain ⟨Z,a,b,rfl,ht,q0,q1⟩:=h
 have ok:=ht.ok
 have c_47:=c_47 b.n ok.n1 ok.n4
 refine ⟨_,(pss_cons (ps_for PassesOwn.never rfl (pi_range2 rfl T.b_range (pa_cons pe_int (pa_cons (pe_op op_add (pe_gi T.c_MOST_TOGETHER) pe_int) pa_nil))) (pN 1 sc50.nd)
   (pss_one (ps_for PassesOwn.never rfl (pi_list (pe_fn c_47 (rm hr) (pa_cons (pv 1) (pa_cons (pe_worlds T (pv 0)) pa_nil)))) (pN 2 sc50.nd)
   (pss_one (ps_if (pt_val (pe_fn c_49 (rm hr) (pa_cons (pe_likelier T (pv 0)) (pa_cons (pv 2) pa_nil)))) (pss_one (ps_ret (pv 2))) pss_nil)))))
  (pss_one (ps_ret pe_non))),?_⟩
 walk_at "rd"
 refine ⟨by decide,by decide,by decide,by decide,?_⟩
 obtain ⟨Pv,hPv⟩:∃ Pv:Nat->L2.St->Hp->Prop,∀ i σ H',Pv i σ H' ↔ (Same H H'/\∃ (o1 o2:Option V),σ=[some (.ref a),o1,o2]/\(((List.range i).map fun t=>t+1).findSome? fun t=>(Krae.rowsOf b.n t).find? fun x=>b.worlds.told.all fun y=>y.holds x)=none):=⟨_,fun _ _ _=>Iff.rfl⟩
 refine loop_of (yl_range (H1:=H) 1 (10+1 - 1:Int).toNat) Pv (fun i σ H' h=>((hPv _ _ _).mp h).1) ((hPv _ _ _).mpr ⟨Same.refl _,none,none,rfl,rfl⟩) (fun i σ H' H2 h s=>by
  obtain ⟨h1,o2,o3,h2,h3⟩:=(hPv _ _ _).mp h
  exact (hPv _ _ _).mpr ⟨h1.trans s,o2,o3,h2,h3⟩) ?_ ?_
 ·intro i σ H' v hi h y
  obtain ⟨s1,o1,o2,rfl,hn⟩:=(hPv _ _ _).mp h
  subst y
  have hi:i<10:=hi
  walk_at "rd"
  rw [show 1+(i:Int)=((i+1:Nat):Int) by omega]
  refine ⟨Z,b,ht.mono s1,i+1,rfl,by omega,fun l1 H1 nl s2 r1=>?_⟩
  walk_at "rd"
  obtain ⟨prs,e1,e2,e3⟩:=r1.prs
  obtain ⟨Pw,hPw⟩:∃ Pw:Nat->L2.St->Hp->Prop,∀ j σ H2,Pw j σ H2 ↔ (Same H1 H2/\∃ (o2:Option V),σ=[some (.ref a),some (.int ((i+1:Nat):Int)),o2]/\(((Krae.rowsOf b.n (i+1)).take j).find? fun x=>b.worlds.told.all fun y=>y.holds x)=none):=⟨_,fun _ _ _=>Iff.rfl⟩
  refine ⟨⟨_,SqL.of e2⟩,loop_of (yl_list (K:=K) (SqL.of e2)) Pw (fun i σ H' h=>((hPw _ _ _).mp h).1) ((hPw _ _ _).mpr ⟨Same.refl _,o2,rfl,rfl⟩) (fun i σ H' H2 h s=>by
   obtain ⟨h1,o2,h2,h3⟩:=(hPw _ _ _).mp h
   exact (hPw _ _ _).mpr ⟨h1.trans s,o2,h2,h3⟩) ?_ ?_⟩
  ·intro j σ H2 v hj h y
   obtain ⟨s3,o2,rfl,hn2⟩:=(hPw _ _ _).mp h
   obtain ⟨pr,hpr,rfl⟩:∃ pr,prs[j]?=some pr/\v=V.ref pr.1:=by
    rw [List.getElem?_map] at y
    cases e:prs[j]? with
    | none=>rw [e] at y;cases y
    | some pr=>rw [e] at y;exact ⟨pr,rfl,(Option.some.inj y).symm⟩
   have hm:=List.mem_of_getElem? hpr
   have hrow:(Krae.rowsOf b.n (i+1))[j]?=some pr.2:=by rw [e1,List.getElem?_map,hpr];rfl
   have hlr:pr.2.length=b.n:=rowsOf_len (List.mem_of_getElem? hrow)
   have hat:=s3 _ _ (e3 pr hm)
   have:=ok.n4
   walk_at "rd"
   refine ⟨Z,b,H,ht,(s1.trans s2).trans s3,fun l hl=>?_⟩
   refine ⟨Z,l,pr.1,likes b,pr.2,rfl,hl.mono (((s1.trans s2).trans s3).z _),SqL.of hat,by omega,fun H3 s4=>?_⟩
   walk_at "rd"
   have e9:(likes b).all (agreesT pr.2)=b.worlds.told.all fun y=>y.holds pr.2:=by
    unfold likes
    rw [List.all_map]
    congr 1
    funext t
    exact holds_krae t pr.2
   rw [e9]
   by_cases hb:(b.worlds.told.all fun y=>y.holds pr.2)=true
   ·rw [if_pos hb]
    refine q1 pr.2 ?_ pr.1 H3 (((s1.trans s2).trans s3).trans s4) (s4 _ _ hat)
    rw [shares_eq]
    unfold sharesOf
    have h10:List.range 10=List.range i++(i::(List.range 10).drop (i+1)):=by
     have h11:(List.range 10)[i]?=some i:=List.getElem?_range hi
     conv=>lhs;rw [<-List.take_append_drop (i+1) (List.range 10),take_snoc h11,List.take_range]
     rw [show min i 10=i by omega];simp
    rw [h10,List.map_append,List.findSome?_append,hn,Option.none_or,List.map_cons,List.findSome?_cons]
    have h12:((Krae.rowsOf b.n (i+1)).find? fun x=>b.worlds.told.all fun y=>y.holds x)=some pr.2:=by
     conv=>lhs;rw [<-List.take_append_drop (j+1) (Krae.rowsOf b.n (i+1)),take_snoc hrow]
     rw [List.find?_append,List.find?_append,hn2,Option.none_or,List.find?_cons_of_pos (p:=fun x=>b.worlds.told.all fun y=>y.holds x) hb]
     rfl
    rw [h12]
   ·rw [if_neg hb]
    refine (hPw _ _ _).mpr ⟨s3.trans s4,_,rfl,?_⟩
    rw [take_snoc hrow,List.find?_append,hn2,Option.none_or,List.find?_cons_of_neg (p:=fun x=>b.worlds.told.all fun y=>y.holds x) hb]
    rfl
  ·intro σ H2 h
   obtain ⟨s3,o2,rfl,hn2⟩:=(hPw _ _ _).mp h
   refine (hPv _ _ _).mpr ⟨(s1.trans s2).trans s3,_,_,rfl,?_⟩
   rw [List.range_succ,List.map_append,List.findSome?_append,hn,Option.none_or]
   have h13:(prs.map fun p=>V.ref p.1).length=(Krae.rowsOf b.n (i+1)).length:=by rw [e1];simp
   rw [h13,List.take_length] at hn2
   rw [List.map_cons,List.map_nil,List.findSome?_cons,hn2]
   rfl
 ·intro σ H' h
  obtain ⟨s1,o1,o2,rfl,hn⟩:=(hPv _ _ _).mp h
  walk_at "rd"
  refine q0 ?_ H' s1
  rw [shares_eq]
  exact hn
def spMembers:Sp:=fun vs H Q _=>∃ (c:Nat),vs=[.int (c:Int)]/\c<2 ^ 100/\∀ l ms H',H l=none->Same H H'->H' l=some (.lst (nv ms))->(∀ i,i ∈ ms ↔ c.testBit i=true)->ms.length<=101->Q (.ref l) H'
def wrongW (b:Krag.Book) (x:List Nat) (z:List Nat):Nat:=wrongB (b.told x) z
structure WrongsAt (H:Hp) (l:Addr) (ws:List Nat):Prop where
 ex:∃ kvs:List (Key × V),H l=some (.dK kvs)/\(∀ k:Key,k ∈ kvs.map (·.1) ↔ ∃ n ∈ ws,k=Sum.inl ((n:Nat):Int))/\kvs.length<=ws.length
theorem WrongsAt.mono {H H':Hp} {l:Addr} {ws:List Nat} (h:WrongsAt H l ws) (s:Same H H'):WrongsAt H' l ws:=by
 obtain ⟨kvs,e,k⟩:=h
 exact ⟨kvs,s _ _ e,k⟩
theorem val_iff {kvs:List (Key × V)} {k:Key}:(valV kvs k).isSome=true ↔ k ∈ kvs.map (·.1):=by
 constructor
 ·intro h
  obtain ⟨v,e⟩:=Option.isSome_iff_exists.mp h
  exact valV_in e
 ·intro h
  cases e:valV kvs k with
  | none=>exact absurd h (valV_not e)
  | some v=>rfl
theorem put_keys {kvs:List (Key × V)} {k j:Key} {v:V}:j ∈ (putK kvs k v).map (·.1) ↔ j=k\/j ∈ kvs.map (·.1):=by
 rw [<-val_iff,valV_put,<-val_iff]
 by_cases h:j=k
 ·simp [h]
 ·simp [h]
def wrongsOf (b:Krag.Book) (x:List Nat):List Nat:=(Krab.rows b.prizes).map (wrongW b x)
def spWrongSets (K:PySem.W.Frag) (CT:Addr):Sp:=fun vs H Q _=>∃ (Z:Addr->Prop) (a sl:Addr) (b:Krag.Book) (x:List Nat),vs=[.ref a,.ref sl]/\ToldAt Z CT H a b/\SqL K H sl (nv x)/\b.shares=some x/\∀ p H',H p=none->Same H H'->WrongsAt H' p (wrongsOf b x)->Q (.ref p) H'
def spGoTogether:Sp:=fun vs H Q _=>∃ (l:Addr) (ws:List Nat) (c:Nat),vs=[.ref l,.int (c:Int)]/\WrongsAt H l ws/\ws.length<=5000/\∀ H',Same H H'->Q (.bl (ws.any fun w=>w &&& c==0)) H'
theorem intBits_test (c:Nat):∀ i,c.testBit i=true->i<Builtin.Int.intBits (c:Int):=by
 intro i h
 unfold Builtin.Int.intBits
 by_cases h0:c=0
 ·subst h0;simp at h
 ·have:((c:Int)==0)=false:=by simp;omega
  rw [this]
  simp only [Bool.false_eq_true,if_false,Int.natAbs_natCast]
  have h1:c<2 ^ (c.log2+1):=Nat.lt_log2_self
  exact test_lt h1 h
theorem intBits_le {c:Nat} (h:c<2 ^ 100):Builtin.Int.intBits (c:Int)<=101:=by
 unfold Builtin.Int.intBits
 by_cases h0:c=0
 ·subst h0;simp
 ·have:((c:Int)==0)=false:=by simp;omega
  rw [this]
  simp only [Bool.false_eq_true,if_false,Int.natAbs_natCast]
  have:=(Nat.log2_lt h0).mpr h
  omega
theorem sc23:FnScope ["chosen","place"] ["chosen"] (defScope s_23):=⟨rfl,rfl,rfl,by decide +kernel,rfl,by decide +kernel,by decide +kernel⟩
theorem ok23 (F:Fun K "members" "members" s_23 f fd) (T:Txt K mg CT CS) (c_22:Callee P w K mg base "is_member" 1 ["chosen","place"] spIsMember):FnOk P w K mg base CX0 2 f fd ["chosen"] spMembers:=by
 refine F.ok sc23 (fun vs H Q E h=>by obtain ⟨_,rfl,_⟩:=h;rfl) (fun cdv A outer s H vs Q E hr h=>?_)
 obtain ⟨c,rfl,hc,q⟩:=h
 refine ⟨_,(pss_one (ps_ret (pe_lc (own:=[("place",1)]) rfl sc23.nd (pi_range1 rfl T.b_range (pa_cons (pe_bitlen (pv 0)) pa_nil)) (blkOk_by (N:=["chosen","place"]) (sc:=defScope s_23) (by decide +kernel)) (fun _ _ _ _ _=>(pN 1 sc23.nd)) (fun _ _ _ _ _=>(pts_one (pt_val (pe_fn c_22 (rm hr) (pa_cons (pv 0) (pa_cons (pv 1) pa_nil)))))) (fun _ _ _ _ _=>(pv 1))))),?_⟩
 walk_at "rd"
 simp only [tBitlen]
 walk_at "rd"
 have hb:=intBits_le hc
 refine ⟨by omega,by omega,fun D hD=>?_⟩
 refine comp_of (yl_range (H1:=H) 0 _) hD (fun i=>nv ((List.range i).filter fun i=>c.testBit i)) rfl (fun i hi=>sml ?_) (fun i H v A y=>?_) (fun H s e=>?_)
 ·rw [nv_length]
  exact Nat.le_trans (List.length_filter_le _ _) (by rw [List.length_range];omega)
 ·subst y
  walk_at "rd"
  rw [Int.zero_add]
  refine ⟨c,i,rfl,?_⟩
  walk_at "rd"
  by_cases hb:c.testBit i=true
  ·rw [if_pos hb]
   refine A.yes (Same.refl _) ?_
   rw [filter_range_yes hb,nv_snoc]
  ·rw [if_neg hb]
   refine A.no (Same.refl _) ?_
   rw [filter_range_no (by simpa using hb)]
 ·refine q D _ H hD s e (fun i=>?_) ?_
  ·rw [List.mem_filter,List.mem_range,Int.toNat_natCast]
   exact ⟨fun h=>h.2,fun h=>⟨intBits_test c i h,h⟩⟩
  ·exact Nat.le_trans (List.length_filter_le _ _) (by rw [List.length_range];omega)
theorem sc26:FnScope ["told","shares","tellings","found","numbers"] ["told","shares"] (defScope s_26):=⟨rfl,rfl,rfl,by decide +kernel,rfl,by decide +kernel,by decide +kernel⟩
theorem ok26 (F:Fun K "wrong_sets" "wrong_sets" s_26 f fd) (T:Txt K mg CT CS) (c_17:Callee P w K mg base "rather_gaps" 3 ["told","shares"] (spRatherGaps K CT)) (c_13:Callee P w K mg base "all_numbers" 1 ["prizes"] spAllNumbers) (c_24:Callee P w K mg base "set_of" 1 ["places"] (spSetOf K)) (c_20:Callee P w K mg base "disagreed_with" 3 ["tellings","numbers"] (spDisagreed K)):FnOk P w K mg base CX0 4 f fd ["told","shares"] (spWrongSets K CT):=by
 refine F.ok sc26 (fun vs H Q E h=>by obtain ⟨_,_,_,_,_,rfl,_⟩:=h;rfl) (fun cdv A outer s H vs Q E hr h=>?_)
 obtain ⟨Z,a,sl,b,x,rfl,ht,hx,hs,q⟩:=h
 refine ⟨_,(pss_cons (pS 2 sc26.nd (pe_fn c_17 (rm hr) (pa_cons (pv 0) (pa_cons (pv 1) pa_nil))))
  (pss_cons (pS 3 sc26.nd pe_dnewK)
  (pss_cons (ps_for PassesOwn.never rfl (pi_list (pe_fn c_13 (rm hr) (pa_cons (pe_prizes T (pv 0)) pa_nil))) (pN 4 sc26.nd)
   (pss_one (ps_dput (hu_of hr) (pv 3) (pe_fn c_24 (rm hr) (pa_cons (pe_fn c_20 (rm hr) (pa_cons (pv 2) (pa_cons (pv 4) pa_nil))) pa_nil)) pe_bl rfl)))
  (pss_one (ps_ret (pv 3)))))),?_⟩
 walk_at "rd"
 have ok:=ht.ok
 have:=ok.r5
 have:=ok.p4
 obtain ⟨x1,x2,x3,x4⟩:=shares_facts hs
 refine ⟨Z,a,sl,b,x,rfl,ht,hx,x1,fun l1 H1 s1 g1=>?_⟩
 walk_at "rd"
 refine fun D nD=>?_
 have s2:Same H1 (upd H1 D (.dK [])):=Same.new nD
 refine ⟨Z,b,ht.mono (s1.trans s2),b.prizes,rfl,ok.p4,fun l2 H2 s3 r2=>?_⟩
 walk_at "rd"
 obtain ⟨prs,e1,e2,e3⟩:=r2.prs
 have hD2:H2 D=some (.dK []):=s3 _ _ upd_same
 have nl:l2 ≠ D:=ne_of e2 hD2 (by intro z;cases z)
 have g2:GapsAt H2 l1 (gapsOf b x):=g1.mono (s2.trans s3)
 have nDH:H D=none:=s1.free nD
 have hpn:prs.length<=4096:=by
  have:=rows_count b.prizes
  rw [e1,List.length_map] at this
  rw [this]
  exact Nat.le_trans (Nat.pow_le_pow_right (by decide) ok.p4) (by decide)
 obtain ⟨Pw,hPw⟩:∃ Pw:Nat->L2.St->Hp->Prop,∀ j σ H',Pw j σ H' ↔ (Same H1 H'/\(∀ b o,b ≠ D->H2 b=some o->H' b=some o)/\(∃ (o4:Option V),σ=[some (.ref a),some (.ref sl),some (.ref l1),some (.ref D),o4])/\WrongsAt H' D (((Krab.rows b.prizes).take j).map (wrongW b x))):=⟨_,fun _ _ _=>Iff.rfl⟩
 refine ⟨⟨_,SqL.of e2⟩,loop_list (K:=K) (xs:=prs.map fun p=>V.ref p.1) Pw ((hPw _ _ _).mpr ⟨s2.trans s3,fun b o _ h=>h,⟨none,rfl⟩,⟨[],hD2,fun k=>by simp,by simp⟩⟩) (fun j σ H' _ h=>SqL.of (((hPw _ _ _).mp h).2.1 _ _ nl e2)) ?_ ?_⟩
 ·intro j v σ H' hv h
  obtain ⟨s4,k4,⟨o4,rfl⟩,⟨kvs,w1,w2,w3⟩⟩:=(hPw _ _ _).mp h
  obtain ⟨pr,hpr,rfl⟩:∃ pr,prs[j]?=some pr/\v=V.ref pr.1:=by
   rw [List.getElem?_map] at hv
   cases e:prs[j]? with
   | none=>rw [e] at hv;cases hv
   | some pr=>rw [e] at hv;exact ⟨pr,rfl,(Option.some.inj hv).symm⟩
  have hm:=List.mem_of_getElem? hpr
  have hrow:(Krab.rows b.prizes)[j]?=some pr.2:=by rw [e1,List.getElem?_map,hpr];rfl
  have hmr:=List.mem_of_getElem? hrow
  have hat:=k4 _ _ (ne_of (e3 pr hm) hD2 (by intro z;cases z)) (e3 pr hm)
  have h9:=rows_len hmr
  walk_at "rd"
  have g4:GapsAt H' l1 (gapsOf b x):=g1.mono s4
  refine ⟨l1,pr.1,gapsOf b x,pr.2,rfl,g4,?_,SqL.of hat,by omega,(fun n hn=>by have:=rows_in hmr n hn;omega),?_,fun l5 H5 s5 e5=>?_⟩
  ·unfold gapsOf;rw [List.length_map];omega
  ·intro g hg
   obtain ⟨r,_,er⟩:=List.mem_map.mp hg
   rw [<-er,h9]
   exact gapsB_length _ _ _ _
  ·have hwl:(wrongL (gapsOf b x) pr.2).length<=5:=by
    unfold wrongL
    refine Nat.le_trans (List.length_filter_le _ _) ?_
    rw [List.length_range]
    unfold gapsOf
    rw [List.length_map];omega
   refine ⟨l5,_,rfl,SqL.of e5,?_,by omega,fun H6 s6=>?_⟩
   ·intro n hn
    have:=List.mem_range.mp (List.mem_filter.mp hn).1
    unfold gapsOf at this
    rw [List.length_map] at this;omega
   ·have ew:((wrongL (gapsOf b x) pr.2).map fun i=>2 ^ i).sum=wrongW b x pr.2:=by
     unfold wrongW wrongB wrongL
     rw [bits_sum,told_length,show (gapsOf b x).length=b.rather.length by unfold gapsOf;simp]
     congr 2
     apply List.filter_congr
     intro i hi
     have hi:=List.mem_range.mp hi
     have e6:(gapsOf b x).getD i (0,[])=((b.rather[i]).kind,gapsB b x (b.rather[i]).a (b.rather[i]).b):=by
      unfold gapsOf
      rw [List.getD_eq_getElem?_getD,List.getElem?_map,List.getElem?_eq_getElem hi];rfl
     have e7:(b.told x).getD i ⟨[],[],2⟩=⟨Krag.sideOf b.prizes x (b.lot (b.rather[i]).a),Krag.sideOf b.prizes x (b.lot (b.rather[i]).b),(b.rather[i]).kind⟩:=by
      unfold Krag.Book.told
      rw [List.getD_eq_getElem?_getD,List.getElem?_map,List.getElem?_eq_getElem hi];rfl
     rw [e6,e7,agrees_told]
    rw [ew]
    walk_at "rd"
    have hD6:=s6 _ _ (s5 _ _ w1)
    have hj:j<prs.length:=lt_of_get hpr
    have hkl:kvs.length<=4096:=by
     rw [List.length_map,List.length_take] at w3
     omega
    refine ⟨_,DPut.k (k:=Sum.inl ((wrongW b x pr.2:Nat):Int)) hD6 (sml (by omega)),(hPw _ _ _).mpr ⟨((s4.trans s5).trans s6).put nD,fun c o hc h=>?_,⟨_,rfl⟩,⟨_,upd_same,fun k=>?_,?_⟩⟩⟩
    ·rw [upd_ne hc];exact s6 _ _ (s5 _ _ (k4 _ _ hc h))
    ·rw [put_keys,w2,take_snoc hrow,List.map_append]
     constructor
     ·rintro (rfl | ⟨n,hn,rfl⟩)
      ·exact ⟨_,List.mem_append_right _ (by simp),rfl⟩
      ·exact ⟨n,List.mem_append_left _ hn,rfl⟩
     ·rintro ⟨n,hn,rfl⟩
      rcases List.mem_append.mp hn with hn | hn
      ·exact .inr ⟨n,hn,rfl⟩
      ·have:n=wrongW b x pr.2:=by simpa using hn
       exact .inl (by rw [this])
    ·have:=length_putK kvs (Sum.inl ((wrongW b x pr.2:Nat):Int)) (V.bl true)
     rw [take_snoc hrow,List.map_append,List.length_append]
     simp only [List.map_cons,List.map_nil,List.length_cons,List.length_nil]
     omega
 ·intro σ H' h
  obtain ⟨s4,k4,⟨o4,rfl⟩,w⟩:=(hPw _ _ _).mp h
  walk_at "rd"
  have e8:(prs.map fun p=>V.ref p.1).length=(Krab.rows b.prizes).length:=by rw [e1];simp
  rw [e8,List.take_length] at w
  exact q D H' nDH (s1.trans s4) w
theorem sc27:FnScope ["wrongs","chosen","wrong"] ["wrongs","chosen"] (defScope s_27):=⟨rfl,rfl,rfl,by decide +kernel,rfl,by decide +kernel,by decide +kernel⟩
theorem ok27 (F:Fun K "go_together" "go_together" s_27 f fd) (T:Txt K mg CT CS):FnOk P w K mg base CX0 1 f fd ["wrongs","chosen"] spGoTogether:=by
 refine F.ok sc27 (fun vs H Q E h=>by obtain ⟨_,_,_,rfl,_⟩:=h;rfl) (fun cdv A outer s H vs Q E hr h=>?_)
 obtain ⟨l,ws,c,rfl,⟨kvs,hl,h1,h2⟩,hw,q⟩:=h
 refine ⟨_,(pss_one (ps_lock (ps_ret (pe_callB (cr_any rfl) rfl T.b_any boot_any (pa_cons (pe_lc (own:=[("wrong",2)]) rfl sc27.nd (pi_keys (pv 0)) (blkOk_by (N:=["wrongs","chosen","wrong"]) (sc:=defScope s_27) (by decide +kernel)) (fun _ _ _ _ _=>(pN 2 sc27.nd)) (fun _ _ _ _ _=>pts_nil) (fun _ _ _ _ _=>(pe_cmpR op_eq (pe_op op_and (pv 2) (pv 1)) pe_int (nomark _)))) pa_nil))))),?_⟩
 refine ⟨l,_,hl,trivial,fun od=>?_⟩
 walk_at "rd"
 refine ⟨od,.inl ⟨kvs,upd_same,fun D hD=>?_⟩⟩
 have keyN:∀ p ∈ kvs,∃ n:Nat,n ∈ ws/\p.1=Sum.inl (n:Int):=fun p hp=>(h1 p.1).mp (List.mem_map.mpr ⟨p,hp,rfl⟩)
 have nl:l ≠ D:=fun z=>by rw [<-z,upd_same] at hD;cases hD
 refine comp_of (yl_keys (H1:=upd H l (.frz od (.dK kvs))) upd_same) hD (fun i=>((kvs.take i).map fun p=>match p.1 with | Sum.inl k=>decide (Builtin.bitAnd k (c:Int)=0) | Sum.inr _=>false).map V.bl) rfl (fun i hi=>sml (by simp;omega)) (fun i H' v A y=>?_) (fun H' s' e=>?_)
 ·obtain ⟨k,v',hk,rfl⟩:=y
  obtain ⟨n,hn,en⟩:=keyN _ (List.mem_of_getElem? hk)
  have en:k=Sum.inl (n:Int):=en
  subst en
  show gName 2 (V.int (n:Int)) _ _ _
  walk_at "rd"
  refine A.yes (Same.refl _) ?_
  rw [take_snoc hk,List.map_append,List.map_append]
  rfl
 ·walk_at "rd"
  rw [List.take_length] at e
  refine ⟨_,SqL.of e,s' _ _ upd_same,?_⟩
  have e9:((kvs.map fun p=>match p.1 with | Sum.inl k=>decide (Builtin.bitAnd k (c:Int)=0) | Sum.inr _=>false).any id)=ws.any fun w=>w &&& c==0:=by
   rw [List.any_map,Bool.eq_iff_iff,List.any_eq_true,List.any_eq_true]
   have bt:∀ n:Nat,Builtin.bitAnd (n:Int) (c:Int)=0 ↔ (n &&& c==0)=true:=fun n=>by
    rw [bitAnd_pp (by omega) (by omega),Int.toNat_natCast,Int.toNat_natCast,beq_iff_eq];omega
   constructor
   ·rintro ⟨p,hp,hb⟩
    obtain ⟨n,hn,en⟩:=keyN p hp
    simp only [Function.comp_apply,en,id,decide_eq_true_eq] at hb
    exact ⟨n,hn,(bt n).mp hb⟩
   ·rintro ⟨n,hn,hb⟩
    obtain ⟨p,hp,en⟩:=List.mem_map.mp ((h1 (Sum.inl (n:Int))).mpr ⟨n,hn,rfl⟩)
    refine ⟨p,hp,?_⟩
    simp only [Function.comp_apply,en,id,decide_eq_true_eq]
    exact (bt n).mpr hb
  rw [e9]
  refine q _ fun b o hb=>?_
  by_cases hbl:b=l
  ·subst hbl;rw [upd_same];rw [hl] at hb;exact hb
  ·rw [upd_ne hbl];exact s' _ _ (by rw [upd_ne hbl];exact hb)
def goW (ws:List Nat) (c:Nat):Bool:=ws.any fun w=>w &&& c==0
def spIsClash:Sp:=fun vs H Q _=>∃ (l:Addr) (ws:List Nat) (c:Nat),vs=[.ref l,.int (c:Int)]/\WrongsAt H l ws/\ws.length<=5000/\c<2 ^ 100/\∀ (v:Bool) H',Same H H'->(v=true ↔ clashBy (goW ws) c)->Q (.bl v) H'
def spAllClashes (K:PySem.W.Frag) (CT:Addr):Sp:=fun vs H Q _=>∃ (Z:Addr->Prop) (a sl:Addr) (b:Krag.Book) (x:List Nat),vs=[.ref a,.ref sl]/\ToldAt Z CT H a b/\SqL K H sl (nv x)/\b.shares=some x/\∀ p H',Same H H'->H' p=some (.lst (nv (b.clashes x)))->Q (.ref p) H'
def spareL (b:Krag.Book):List Nat:=(List.range b.rather.length).filter fun i=>(Krag.Book.fit { b with rather:=b.rather.eraseIdx i }).length==b.fit.length
def spAllToSpare (K:PySem.W.Frag) (CT:Addr):Sp:=fun vs H Q _=>∃ (Z:Addr->Prop) (a sl:Addr) (b:Krag.Book) (x:List Nat),vs=[.ref a,.ref sl]/\ToldAt Z CT H a b/\SqL K H sl (nv x)/\b.shares=some x/\∀ p H',Same H H'->H' p=some (.lst (nv (spareL b)))->Q (.ref p) H'
theorem goW_B (b:Krag.Book) (x:List Nat):goW (wrongsOf b x)=goB b.prizes (b.told x):=by
 funext c
 unfold goW wrongsOf goB
 rw [List.any_map]
 rfl
theorem wrongs_len {b:Krag.Book} (ok:BookOk b) (x:List Nat):(wrongsOf b x).length<=5000:=by
 unfold wrongsOf
 rw [List.length_map,rows_count]
 exact Nat.le_trans (Nat.pow_le_pow_right (by decide) ok.p4) (by decide)
theorem sc28:FnScope ["wrongs","chosen","place"] ["wrongs","chosen"] (defScope s_28):=⟨rfl,rfl,rfl,by decide +kernel,rfl,by decide +kernel,by decide +kernel⟩
theorem ok28 (F:Fun K "is_clash" "is_clash" s_28 f fd) (T:Txt K mg CT CS) (c_27:Callee P w K mg base "go_together" 1 ["wrongs","chosen"] spGoTogether) (c_23:Callee P w K mg base "members" 2 ["chosen"] spMembers) (c_24:Callee P w K mg base "set_of" 1 ["places"] (spSetOf K)):FnOk P w K mg base CX0 3 f fd ["wrongs","chosen"] spIsClash:=by
 refine F.ok sc28 (fun vs H Q E h=>by obtain ⟨_,_,_,rfl,_⟩:=h;rfl) (fun cdv A outer s H vs Q E hr h=>?_)
 obtain ⟨l,ws,c,rfl,hw,hn,hc,q⟩:=h
 refine ⟨_,(pss_cons (ps_if (pt_val (pe_fn c_27 (rm hr) (pa_cons (pv 0) (pa_cons (pv 1) pa_nil)))) (pss_one (ps_ret pe_bl)) pss_nil)
  (pss_one (ps_ret (pe_callB (cr_all rfl) rfl T.b_all boot_all (pa_cons (pe_lc (own:=[("place",2)]) rfl sc28.nd (pi_list (pe_fn c_23 (rm hr) (pa_cons (pv 1) pa_nil))) (blkOk_by (N:=["wrongs","chosen","place"]) (sc:=defScope s_28) (by decide +kernel)) (fun _ _ _ _ _=>(pN 2 sc28.nd)) (fun _ _ _ _ _=>pts_nil) (fun _ _ _ _ _=>(pe_fn c_27 (rm hr) (pa_cons (pv 0) (pa_cons (pe_op op_sub (pv 1) (pe_fn c_24 (rm hr) (pa_cons (pe_lst (pa_cons (pv 2) pa_nil)) pa_nil))) pa_nil))))) pa_nil))))),?_⟩
 walk_at "rd"
 refine ⟨l,ws,c,rfl,hw,hn,fun H1 s1=>?_⟩
 walk_at "rd"
 refine ite2 (fun hg=>q false H1 s1 ⟨(fun z=>by cases z),fun z=>?_⟩) (fun hg=>?_)
 ·have:=z.1
  unfold goW at this
  rw [hg] at this;cases this
 ·refine ⟨c,rfl,hc,fun l2 ms H2 nl s2 e2 hm hml=>?_⟩
  walk_at "rd"
  refine ⟨⟨_,SqL.of e2⟩,fun D hD=>?_⟩
  refine comp_of (yl_list (K:=K) (SqL.of e2)) hD (fun i=>((ms.take i).map fun i=>goW ws (c - 2 ^ i)).map V.bl) rfl (fun i hi=>sml (by rw [nv_length] at hi;simp;omega)) (fun i H' v A y=>?_) (fun H' s' e=>?_)
  ·obtain ⟨n,hn',rfl⟩:=nv_get y
   have hnm:=List.mem_of_getElem? hn'
   have htb:=(hm n).mp hnm
   have hn100:n<100:=test_lt hc htb
   have hle:2 ^ n<=c:=Nat.ge_two_pow_of_testBit htb
   walk_at "rd"
   refine ⟨sml' (by decide),fun p1 n1=>?_⟩
   refine ⟨p1,[n],rfl,SqL.of upd_same,(by simp;omega),(by simp),fun H3 s3=>?_⟩
   have t3:Same H' H3:=(Same.new n1).trans s3
   rw [show (([n].map fun i=>2 ^ i).sum:Nat)=2 ^ n by simp]
   walk_at "rd"
   rw [show (c:Int) - ((2 ^ n:Nat):Int)=((c - 2 ^ n:Nat):Int) by omega]
   refine ⟨l,ws,c - 2 ^ n,rfl,hw.mono (((s1.trans s2).trans A.same).trans t3),hn,fun H4 s4=>?_⟩
   refine A.yes (t3.trans s4) ?_
   rw [take_snoc hn',List.map_append,List.map_append]
   rfl
  ·walk_at "rd"
   rw [nv_length,List.take_length] at e
   refine ⟨_,SqL.of e,q _ H' ((s1.trans s2).trans s') ?_⟩
   rw [List.all_map,List.all_eq_true]
   have hg':goW ws c=false:=by unfold goW;simpa using hg
   constructor
   ·intro h
    exact ⟨hg',fun i hi=>h i ((hm i).mpr hi)⟩
   ·rintro ⟨_,h⟩ i hi
    exact h i ((hm i).mp hi)
theorem sc29:FnScope ["told","shares","wrongs","chosen"] ["told","shares"] (defScope s_29):=⟨rfl,rfl,rfl,by decide +kernel,rfl,by decide +kernel,by decide +kernel⟩
theorem ok29 (F:Fun K "all_clashes" "all_clashes" s_29 f fd) (T:Txt K mg CT CS) (c_26:Callee P w K mg base "wrong_sets" 4 ["told","shares"] (spWrongSets K CT)) (c_25:Callee P w K mg base "set_of_all" 1 ["size"] spSetOfAll) (c_28:Callee P w K mg base "is_clash" 3 ["wrongs","chosen"] spIsClash):FnOk P w K mg base CX0 5 f fd ["told","shares"] (spAllClashes K CT):=by
 classical
 refine F.ok sc29 (fun vs H Q E h=>by obtain ⟨_,_,_,_,_,rfl,_⟩:=h;rfl) (fun cdv A outer s H vs Q E hr h=>?_)
 obtain ⟨Z,a,sl,b,x,rfl,ht,hx,hs,q⟩:=h
 refine ⟨_,(pss_cons (pS 2 sc29.nd (pe_fn c_26 (rm hr) (pa_cons (pv 0) (pa_cons (pv 1) pa_nil))))
  (pss_one (ps_ret (pe_lc (own:=[("chosen",3)]) rfl sc29.nd (pi_range1 rfl T.b_range (pa_cons (pe_op op_add (pe_fn c_25 (rm hr) (pa_cons (pe_callB call_len_seq rfl T.b_len PySem.boot_len (pa_cons (pe_rather T (pv 0)) pa_nil)) pa_nil)) pe_int) pa_nil)) (blkOk_by (N:=["told","shares","wrongs","chosen"]) (sc:=defScope s_29) (by decide +kernel)) (fun _ _ _ _ _=>(pN 3 sc29.nd)) (fun _ _ _ _ _=>(pts_one (pt_val (pe_fn c_28 (rm hr) (pa_cons (pv 2) (pa_cons (pv 3) pa_nil)))))) (fun _ _ _ _ _=>(pv 3)))))),?_⟩
 walk_at "rd"
 have ok:=ht.ok
 have r5:=ok.r5
 refine ⟨Z,a,sl,b,x,rfl,ht,hx,hs,fun l1 H1 n1 s1 w1=>?_⟩
 walk_at "rd"
 refine ⟨Z,b,H,ht,s1,fun lr hlr=>?_⟩
 obtain ⟨z,as,e1,pr⟩:=hlr
 have hlen:as.length=b.rather.length:=by rw [Paired_len pr];unfold rathers;simp
 refine ⟨_,.inl (SqL.of (s1 _ _ e1)),?_⟩
 rw [List.length_map,hlen]
 refine ⟨b.rather.length,rfl,by omega,?_⟩
 walk_at "rd"
 have hp:0<2 ^ b.rather.length:=Nat.pow_pos (by decide)
 have h32:2 ^ b.rather.length<=32:=Nat.pow_le_pow_right (n:=2) (by decide) r5
 rw [show (((2 ^ b.rather.length - 1:Nat):Int)+1)=((2 ^ b.rather.length:Nat):Int) by omega]
 refine ⟨by omega,by omega,fun D hD=>?_⟩
 refine comp_of (yl_range (H1:=H1) 0 _) hD (fun i=>nv ((List.range i).filter fun s=>decide (clashBy (goB b.prizes (b.told x)) s))) rfl (fun i hi=>sml ?_) (fun i H' v A y=>?_) (fun H' s' e=>?_)
 ·rw [nv_length]
  exact Nat.le_trans (List.length_filter_le _ _) (by rw [List.length_range];omega)
 ·subst y
  rw [Int.zero_add]
  have hi:i<32:=by have:=A.lt;omega
  walk_at "rd"
  refine ⟨l1,_,i,rfl,w1.mono A.same,wrongs_len ok x,Nat.lt_trans hi (by decide),fun v H2 s2 hv=>?_⟩
  rw [goW_B] at hv
  walk_at "rd"
  by_cases hc:clashBy (goB b.prizes (b.told x)) i
  ·rw [if_pos (hv.mpr hc)]
   refine A.yes s2 ?_
   rw [filter_range_yes (by simpa using hc),nv_snoc]
  ·rw [if_neg (fun z=>hc (hv.mp z))]
   refine A.no s2 ?_
   rw [filter_range_no (by simpa using hc)]
 ·refine q D H' (s1.trans s') ?_
  rw [Int.toNat_natCast] at e
  rw [e,clashes_eq b x (by rw [told_length];exact r5) (fun s=>decide (clashBy (goB b.prizes (b.told x)) s)) (fun s _=>by simp),told_length]
theorem sc30:FnScope ["told","shares","wrongs","place"] ["told","shares"] (defScope s_30):=⟨rfl,rfl,rfl,by decide +kernel,rfl,by decide +kernel,by decide +kernel⟩
theorem ok30 (F:Fun K "all_to_spare" "all_to_spare" s_30 f fd) (T:Txt K mg CT CS) (c_26:Callee P w K mg base "wrong_sets" 4 ["told","shares"] (spWrongSets K CT)) (c_24:Callee P w K mg base "set_of" 1 ["places"] (spSetOf K)):FnOk P w K mg base CX0 5 f fd ["told","shares"] (spAllToSpare K CT):=by
 refine F.ok sc30 (fun vs H Q E h=>by obtain ⟨_,_,_,_,_,rfl,_⟩:=h;rfl) (fun cdv A outer s H vs Q E hr h=>?_)
 obtain ⟨Z,a,sl,b,x,rfl,ht,hx,hs,q⟩:=h
 refine ⟨_,(pss_cons (pS 2 sc30.nd (pe_fn c_26 (rm hr) (pa_cons (pv 0) (pa_cons (pv 1) pa_nil))))
  (pss_one (ps_ret (pe_lc (own:=[("place",3)]) rfl sc30.nd (pi_range1 rfl T.b_range (pa_cons (pe_callB call_len_seq rfl T.b_len PySem.boot_len (pa_cons (pe_rather T (pv 0)) pa_nil)) pa_nil)) (blkOk_by (N:=["told","shares","wrongs","place"]) (sc:=defScope s_30) (by decide +kernel)) (fun _ _ _ _ _=>(pN 3 sc30.nd)) (fun _ _ _ _ _=>(pts_one (pt_cmp (pc_dnotin (hu_of hr) (pe_fn c_24 (rm hr) (pa_cons (pe_lst (pa_cons (pv 3) pa_nil)) pa_nil)) (pv 2)) (by with_unfolding_all rfl)))) (fun _ _ _ _ _=>(pv 3)))))),?_⟩
 walk_at "rd"
 have ok:=ht.ok
 have r5:=ok.r5
 refine ⟨Z,a,sl,b,x,rfl,ht,hx,hs,fun l1 H1 n1 s1 w1=>?_⟩
 walk_at "rd"
 refine ⟨Z,b,H,ht,s1,fun lr hlr=>?_⟩
 obtain ⟨z,as,e1,pr⟩:=hlr
 have hlen:as.length=b.rather.length:=by rw [Paired_len pr];unfold rathers;simp
 refine ⟨_,.inl (SqL.of (s1 _ _ e1)),?_⟩
 rw [List.length_map,hlen]
 refine ⟨by omega,by omega,fun D hD=>?_⟩
 refine comp_of (yl_range (H1:=H1) 0 _) hD (fun i=>nv ((List.range i).filter fun i=>!((Krab.rows b.prizes).any fun z=>wrongB (b.told x) z==2 ^ i))) rfl (fun i hi=>sml ?_) (fun i H' v A y=>?_) (fun H' s' e=>?_)
 ·rw [nv_length]
  exact Nat.le_trans (List.length_filter_le _ _) (by rw [List.length_range];omega)
 ·subst y
  rw [Int.zero_add]
  have hi:i<5:=by have:=A.lt;omega
  walk_at "rd"
  refine ⟨sml' (by decide),fun p1 m1=>?_⟩
  refine ⟨p1,[i],rfl,SqL.of upd_same,(by simp;omega),(by simp),fun H3 s3=>?_⟩
  have t3:Same H' H3:=(Same.new m1).trans s3
  obtain ⟨kvs,k1,k2,k3⟩:=w1.mono (A.same.trans t3)
  rw [show ((([i].map fun i=>2 ^ i).sum:Nat):Int)=((2 ^ i:Nat):Int) by simp]
  walk_at "rd"
  refine ⟨_,DGet.k (k:=Sum.inl ((2 ^ i:Nat):Int)) k1,?_⟩
  have hb:(valV kvs (Sum.inl ((2 ^ i:Nat):Int))).isSome=((Krab.rows b.prizes).any fun z=>wrongB (b.told x) z==2 ^ i):=by
   rw [Bool.eq_iff_iff,val_iff,k2,List.any_eq_true]
   unfold wrongsOf wrongW
   constructor
   ·rintro ⟨n,hn,en⟩
    obtain ⟨z,hz,ez⟩:=List.mem_map.mp hn
    have en:((2 ^ i:Nat):Int)=(n:Int):=Sum.inl.inj en
    exact ⟨z,hz,by rw [beq_iff_eq,ez];omega⟩
   ·rintro ⟨z,hz,ez⟩
    exact ⟨_,List.mem_map.mpr ⟨z,hz,rfl⟩,by rw [beq_iff_eq.mp ez]⟩
  rw [hb]
  walk_at "rd"
  refine ite2 (fun hc=>?_) (fun hc=>?_)
  ·refine A.yes t3 ?_
   rw [filter_range_yes (by rw [hc];rfl),nv_snoc]
  ·refine A.no t3 ?_
   rw [filter_range_no (by simpa using hc)]
 ·refine q D H' (s1.trans s') ?_
  rw [Int.toNat_natCast] at e
  rw [e]
  congr 3
  unfold spareL
  apply List.filter_congr
  intro i hi
  rw [spare_eq hs i (List.mem_range.mp hi)]
structure FitAt (H:Hp) (l:Addr) (p:Nat) (rs:List (List Nat)):Prop where
 at_:RowsAt NoZ H l rs
 sub:∀ z ∈ rs,z ∈ Krab.rows p
 len:rs.length<=5000
theorem FitAt.mono {H H':Hp} {l:Addr} {p:Nat} {rs:List (List Nat)} (h:FitAt H l p rs) (s:Same H H'):FitAt H' l p rs:=⟨h.at_.mono (s.z _),h.sub,h.len⟩
def spLeastNumbers:Sp:=fun vs H Q _=>∃ (l:Addr) (rs:List (List Nat)),vs=[.ref l]/\RowsAt NoZ H l rs/\0<rs.length/\∀ a z,H a=some (.lst (nv z))->Krab.least rs=some z->z ∈ rs->Q (.ref a) H
def minS (v:List Nat):Nat:=v.foldl min (v.headD 0)
def maxS (v:List Nat):Nat:=v.foldl max 0
def spEnds (K:PySem.W.Frag) (CT:Addr):Sp:=fun vs H Q _=>∃ (Z:Addr->Prop) (a sl fl:Addr) (b:Krag.Book) (x:List Nat) (rs:List (List Nat)) (l:Nat),vs=[.ref a,.ref sl,.ref fl,.int (l:Int)]/\ToldAt Z CT H a b/\SqL K H sl (nv x)/\x.length=b.n/\FitAt H fl b.prizes rs/\0<rs.length/\l<b.lots.length/\
 ∀ p H',Same H H'->H' p=some (.tup [.int (minS (rs.map fun z=>Krag.worth b x z (b.lot l)):Nat),.int (maxS (rs.map fun z=>Krag.worth b x z (b.lot l)):Nat)])->Q (.ref p) H'
def spSurelyAbove (K:PySem.W.Frag):Sp:=fun vs H Q _=>∃ (l:Addr) (gs:List Int),vs=[.ref l]/\SqL K H l (gs.map V.int)/\0<gs.length/\Q (.int (above gs:Nat)) H
def spSurelyMore (K:PySem.W.Frag) (CT:Addr):Sp:=fun vs H Q _=>∃ (Z:Addr->Prop) (a sl fl:Addr) (b:Krag.Book) (x:List Nat) (rs:List (List Nat)) (l m:Nat),vs=[.ref a,.ref sl,.ref fl,.int (l:Int),.int (m:Int)]/\ToldAt Z CT H a b/\SqL K H sl (nv x)/\x.length=b.n/\FitAt H fl b.prizes rs/\0<rs.length/\l<b.lots.length/\m<b.lots.length/\
 ∀ H',Same H H'->Q (.int (Krag.byAll rs (Krag.sideOf b.prizes x (b.lot l)) (Krag.sideOf b.prizes x (b.lot m)):Nat)) H'
def spPrizeMore:Sp:=fun vs H Q _=>∃ (fl:Addr) (p:Nat) (rs:List (List Nat)) (l m:Nat),vs=[.ref fl,.int (l:Int),.int (m:Int)]/\FitAt H fl p rs/\0<rs.length/\l<p/\m<p/\∀ H',Same H H'->Q (.int (above (prizeGaps rs l m):Nat)) H'
def spSomeAgree (K:PySem.W.Frag) (CT:Addr):Sp:=fun vs H Q _=>∃ (Z:Addr->Prop) (a sl fl:Addr) (b:Krag.Book) (x:List Nat) (rs:List (List Nat)) (k l m:Nat),vs=[.ref a,.ref sl,.ref fl,.int (k:Int),.int (l:Int),.int (m:Int)]/\ToldAt Z CT H a b/\SqL K H sl (nv x)/\x.length=b.n/\FitAt H fl b.prizes rs/\l<b.lots.length/\m<b.lots.length/\
 ∀ H',Same H H'->Q (.bl (rs.any fun z=>(⟨Krag.sideOf b.prizes x (b.lot l),Krag.sideOf b.prizes x (b.lot m),k⟩:Krab.Told).holds z)) H'
def spNoWorse (CT:Addr):Sp:=fun vs H Q _=>∃ (Z:Addr->Prop) (a fl:Addr) (b:Krag.Book) (rs:List (List Nat)) (l m:Nat),vs=[.ref a,.ref fl,.int (l:Int),.int (m:Int)]/\ToldAt Z CT H a b/\FitAt H fl b.prizes rs/\0<rs.length/\l<b.lots.length/\m<b.lots.length/\∀ H',Same H H'->Q (.bl (Krag.inEach rs (b.lot l) (b.lot m) b.n)) H'
def sidesOf (b:Krag.Book) (x:List Nat):List (List Nat):=b.lots.map fun l=>Krag.sideOf b.prizes x l
def spTimes (K:PySem.W.Frag) (CT:Addr):Sp:=fun vs H Q _=>∃ (Z:Addr->Prop) (a sl fl:Addr) (b:Krag.Book) (x:List Nat) (rs:List (List Nat)),vs=[.ref a,.ref sl,.ref fl]/\ToldAt Z CT H a b/\SqL K H sl (nv x)/\x.length=b.n/\FitAt H fl b.prizes rs/\
 ∀ p H',Same H H'->H' p=some (.lst (nv ((List.range b.lots.length).map (times (sidesOf b x) rs))))->Q (.ref p) H'
def spBestLots (K:PySem.W.Frag) (CT:Addr):Sp:=fun vs H Q _=>∃ (Z:Addr->Prop) (a sl fl:Addr) (b:Krag.Book) (x:List Nat) (rs:List (List Nat)) (k:Nat),vs=[.ref a,.ref sl,.ref fl,.int (k:Int)]/\ToldAt Z CT H a b/\SqL K H sl (nv x)/\x.length=b.n/\FitAt H fl b.prizes rs/\
 ∀ p H',Same H H'->H' p=some (.lst (nv ((List.range b.lots.length).filter fun l=>decide (k<=times (sidesOf b x) rs l))))->Q (.ref p) H'
theorem sc31:FnScope ["fitting"] ["fitting"] (defScope s_31):=⟨rfl,rfl,rfl,by decide +kernel,rfl,by decide +kernel,by decide +kernel⟩
theorem ok31 (F:Fun K "least_numbers" "least_numbers" s_31 f fd) (T:Txt K mg CT CS):FnOk P w K mg base CX0 1 f fd ["fitting"] spLeastNumbers:=by
 refine F.ok sc31 (fun vs H Q E h=>by obtain ⟨_,_,rfl,_⟩:=h;rfl) (fun cdv A outer s H vs Q E hr h=>?_)
 obtain ⟨l,rs,rfl,hl,hn,q⟩:=h
 refine ⟨_,(pss_one (ps_ret (pe_minkey T (pv 0)))),?_⟩
 walk_at "rd"
 refine ⟨rs,hl,hn,fun i a z hz ha hb=>q a z ha (least_of hz (fun x hx=>?_) fun j x hj hx=>?_) (List.mem_of_getElem? hz)⟩
 ·obtain ⟨j,hj,rfl⟩:=List.getElem_of_mem hx
  have:=(hb j hj).1
  rw [List.getD_eq_getElem?_getD,List.getElem?_eq_getElem hj] at this
  exact this
 ·have hjl:=lt_of_get hx
  have:=(hb j hjl).2 hj
  rw [List.getD_eq_getElem?_getD,hx] at this
  exact this
theorem sc32:FnScope ["told","shares","fitting","lot","weights","sums","numbers"] ["told","shares","fitting","lot"] (defScope s_32):=⟨rfl,rfl,rfl,by decide +kernel,rfl,by decide +kernel,by decide +kernel⟩
theorem ok32 (F:Fun K "least_and_greatest_sum" "least_and_greatest_sum" s_32 f fd) (T:Txt K mg CT CS) (c_14:Callee P w K mg base "prize_shares" 1 ["told","shares","lot"] (spPrizeShares K CT)) (c_16:Callee P w K mg base "weighed" 1 ["weights","numbers"] (spWeighed K)):FnOk P w K mg base CX0 2 f fd ["told","shares","fitting","lot"] (spEnds K CT):=by
 refine F.ok sc32 (fun vs H Q E h=>by obtain ⟨_,_,_,_,_,_,_,_,rfl,_⟩:=h;rfl) (fun cdv A outer s H vs Q E hr h=>?_)
 obtain ⟨Z,a,sl,fl,b,x,rs,l,rfl,ht,hx,hn,hf,hne,hl,q⟩:=h
 refine ⟨_,(pss_cons (pS 4 sc32.nd (pe_fn c_14 (rm hr) (pa_cons (pv 0) (pa_cons (pv 1) (pa_cons (pv 3) pa_nil)))))
  (pss_cons (ps_setLc (i:=5) (own:=[("numbers",6)]) rfl sc32.nd rfl rfl (sw_true rfl rfl rfl rfl) (pi_list (pv 2)) (blkOk_by (N:=["told","shares","fitting","lot","weights","sums","numbers"]) (sc:=defScope s_32) (by decide +kernel)) (fun _ _ _ _ _=>(pN 6 sc32.nd)) (fun _ _ _ _ _=>pts_nil) (fun _ _ _ _ _=>(pe_fn c_16 (rm hr) (pa_cons (pv 4) (pa_cons (pv 6) pa_nil)))))
  (pss_one (ps_ret (pe_tup (pa_cons (pe_callB (cr_min rfl) rfl T.b_min boot_min (pa_cons (pv 5) pa_nil)) (pa_cons (pe_callB (cr_max rfl) rfl T.b_max boot_max (pa_cons (pv 5) pa_nil)) pa_nil))))))),?_⟩
 walk_at "rd"
 have ok:=ht.ok
 have:=ok.p4
 refine ⟨Z,a,sl,b,x,l,rfl,ht,hx,hn,hl,fun p1 H1 s1 e1=>?_⟩
 walk_at "rd"
 obtain ⟨prs,f1,f2,f3⟩:=(hf.mono s1).at_.prs
 have hpl:prs.length<=5000:=by have:=hf.len;rw [f1,List.length_map] at this;exact this
 refine ⟨⟨_,SqL.of f2⟩,fun D hD=>?_⟩
 refine comp_of (yl_list (K:=K) (SqL.of f2)) hD (fun i=>nv ((rs.take i).map fun z=>Krag.worth b x z (b.lot l))) rfl (fun i hi=>sml (by rw [nv_length];rw [List.length_map] at hi;simp;omega)) (fun i H' v A y=>?_) (fun H' s' e=>?_)
 ·obtain ⟨pr,hpr,rfl⟩:∃ pr,prs[i]?=some pr/\v=V.ref pr.1:=by
   rw [List.getElem?_map] at y
   cases e:prs[i]? with
   | none=>rw [e] at y;cases y
   | some pr=>rw [e] at y;exact ⟨pr,rfl,(Option.some.inj y).symm⟩
  have hm:=List.mem_of_getElem? hpr
  have hrow:rs[i]?=some pr.2:=by rw [f1,List.getElem?_map,hpr];rfl
  have hmr:=hf.sub _ (List.mem_of_getElem? hrow)
  have hlr:=rows_len hmr
  walk_at "rd"
  refine ⟨p1,pr.1,ni (Krag.sideOf b.prizes x (b.lot l)),pr.2,rfl,?_,SqL.of (A.same _ _ (f3 pr hm)),?_,by omega,(fun n hn=>by have:=rows_in hmr n hn;omega),fun H2 s2=>?_⟩
  ·rw [<-nv_ni];exact SqL.of (A.same _ _ e1)
  ·rw [ni_length,sideOf_length,hlr]
  ·refine A.yes s2 ?_
   rw [take_snoc hrow,List.map_append,nv_append,dot_ni]
   rfl
 ·walk_at "rd"
  rw [List.length_map,show prs.length=rs.length by rw [f1];simp,List.take_length,nv_ni] at e
  have hnl:0<(ni (rs.map fun z=>Krag.worth b x z (b.lot l))).length:=by rw [ni_length,List.length_map];exact hne
  refine ⟨_,SqL.of e,hnl,fun m hm1 hm2=>⟨_,SqL.of e,hnl,fun M hM1 hM2=>?_⟩⟩
  refine ⟨sml' (by decide),fun pp np=>q pp _ ((s1.trans s').trans (Same.new np)) ?_⟩
  rw [upd_same,min_ni hm1 hm2,max_ni hM1 hM2]
  rfl
theorem sc33:FnScope ["gaps","smallest"] ["gaps"] (defScope s_33):=⟨rfl,rfl,rfl,by decide +kernel,rfl,by decide +kernel,by decide +kernel⟩
theorem ok33 (F:Fun K "surely_above" "surely_above" s_33 f fd) (T:Txt K mg CT CS):FnOk P w K mg base CX0 1 f fd ["gaps"] (spSurelyAbove K):=by
 refine F.ok sc33 (fun vs H Q E h=>by obtain ⟨_,_,rfl,_⟩:=h;rfl) (fun cdv A outer s H vs Q E hr h=>?_)
 obtain ⟨l,gs,rfl,hl,hn,q⟩:=h
 refine ⟨_,(pss_cons (pS 1 sc33.nd (pe_callB (cr_min rfl) rfl T.b_min boot_min (pa_cons (pv 0) pa_nil)))
  (pss_cons (ps_if (pt_cmpR op_gt (pv 1) pe_int (nomark _)) (pss_one (ps_ret pe_int)) pss_nil)
  (pss_one (ps_ret (pe_ifExp (pt_cmpR op_eq (pv 1) pe_int (nomark _)) pe_int pe_int))))),?_⟩
 walk_at "rd"
 refine ⟨_,hl,hn,fun m h1 h2=>?_⟩
 walk_at "rd"
 rw [above_min h1 h2] at q
 by_cases c1:0<m
 ·rw [if_pos c1] at q ⊢;exact q
 ·rw [if_neg c1] at q ⊢
  by_cases c2:m=0
  ·rw [if_pos c2] at q ⊢;exact q
  ·rw [if_neg c2] at q ⊢;exact q
theorem sc34:FnScope ["told","shares","fitting","first","second","gaps","numbers"] ["told","shares","fitting","first","second"] (defScope s_34):=⟨rfl,rfl,rfl,by decide +kernel,rfl,by decide +kernel,by decide +kernel⟩
theorem ok34 (F:Fun K "surely_more" "surely_more" s_34 f fd) (T:Txt K mg CT CS) (c_15:Callee P w K mg base "prize_gaps" 2 ["told","shares","first","second"] (spPrizeGaps K CT)) (c_33:Callee P w K mg base "surely_above" 1 ["gaps"] (spSurelyAbove K)) (c_16:Callee P w K mg base "weighed" 1 ["weights","numbers"] (spWeighed K)):FnOk P w K mg base CX0 3 f fd ["told","shares","fitting","first","second"] (spSurelyMore K CT):=by
 refine F.ok sc34 (fun vs H Q E h=>by obtain ⟨_,_,_,_,_,_,_,_,_,rfl,_⟩:=h;rfl) (fun cdv A outer s H vs Q E hr h=>?_)
 obtain ⟨Z,a,sl,fl,b,x,rs,l,m,rfl,ht,hx,hn,hf,hne,hl,hm,q⟩:=h
 refine ⟨_,(pss_cons (pS 5 sc34.nd (pe_fn c_15 (rm hr) (pa_cons (pv 0) (pa_cons (pv 1) (pa_cons (pv 3) (pa_cons (pv 4) pa_nil))))))
  (pss_one (ps_ret (pe_fn c_33 (rm hr) (pa_cons (pe_lc (own:=[("numbers",6)]) rfl sc34.nd (pi_list (pv 2)) (blkOk_by (N:=["told","shares","fitting","first","second","gaps","numbers"]) (sc:=defScope s_34) (by decide +kernel)) (fun _ _ _ _ _=>(pN 6 sc34.nd)) (fun _ _ _ _ _=>pts_nil) (fun _ _ _ _ _=>(pe_fn c_16 (rm hr) (pa_cons (pv 5) (pa_cons (pv 6) pa_nil))))) pa_nil))))),?_⟩
 walk_at "rd"
 have ok:=ht.ok
 have:=ok.p4
 refine ⟨Z,a,sl,b,x,l,m,rfl,ht,hx,hn,hl,hm,fun p1 H1 s1 e1=>?_⟩
 walk_at "rd"
 obtain ⟨prs,f1,f2,f3⟩:=(hf.mono s1).at_.prs
 have hpl:prs.length<=5000:=by have:=hf.len;rw [f1,List.length_map] at this;exact this
 refine ⟨⟨_,SqL.of f2⟩,fun D hD=>?_⟩
 refine comp_of (yl_list (K:=K) (SqL.of f2)) hD (fun i=>((rs.take i).map fun z=>dot (gapsB b x l m) z).map V.int) rfl (fun i hi=>sml (by rw [List.length_map] at hi;simp;omega)) (fun i H' v A y=>?_) (fun H' s' e=>?_)
 ·obtain ⟨pr,hpr,rfl⟩:∃ pr,prs[i]?=some pr/\v=V.ref pr.1:=by
   rw [List.getElem?_map] at y
   cases e:prs[i]? with
   | none=>rw [e] at y;cases y
   | some pr=>rw [e] at y;exact ⟨pr,rfl,(Option.some.inj y).symm⟩
  have hm:=List.mem_of_getElem? hpr
  have hrow:rs[i]?=some pr.2:=by rw [f1,List.getElem?_map,hpr];rfl
  have hmr:=hf.sub _ (List.mem_of_getElem? hrow)
  have hlr:=rows_len hmr
  walk_at "rd"
  refine ⟨p1,pr.1,_,pr.2,rfl,SqL.of (A.same _ _ e1),SqL.of (A.same _ _ (f3 pr hm)),?_,by omega,(fun n hn=>by have:=rows_in hmr n hn;omega),fun H2 s2=>?_⟩
  ·rw [gapsB_length,hlr]
  ·refine A.yes s2 ?_
   rw [take_snoc hrow,List.map_append,List.map_append]
   rfl
 ·walk_at "rd"
  rw [List.length_map,show prs.length=rs.length by rw [f1];simp,List.take_length] at e
  refine ⟨D,_,rfl,SqL.of e,by rw [List.length_map];exact hne,?_⟩
  have e9:above (rs.map fun z=>dot (gapsB b x l m) z)=Krag.byAll rs (Krag.sideOf b.prizes x (b.lot l)) (Krag.sideOf b.prizes x (b.lot m)):=(byAll_eq rs _ _ b.prizes (sideOf_length _ _ _) (sideOf_length _ _ _)).symm
  rw [e9]
  exact q H' (s1.trans s')
theorem sc35:FnScope ["fitting","first","second","numbers"] ["fitting","first","second"] (defScope s_35):=⟨rfl,rfl,rfl,by decide +kernel,rfl,by decide +kernel,by decide +kernel⟩
theorem ok35 (F:Fun K "prize_surely_more" "prize_surely_more" s_35 f fd) (T:Txt K mg CT CS) (c_33:Callee P w K mg base "surely_above" 1 ["gaps"] (spSurelyAbove K)):FnOk P w K mg base CX0 2 f fd ["fitting","first","second"] spPrizeMore:=by
 refine F.ok sc35 (fun vs H Q E h=>by obtain ⟨_,_,_,_,_,rfl,_⟩:=h;rfl) (fun cdv A outer s H vs Q E hr h=>?_)
 obtain ⟨fl,p,rs,l,m,rfl,hf,hne,hl,hm,q⟩:=h
 refine ⟨_,(pss_one (ps_ret (pe_fn c_33 (rm hr) (pa_cons (pe_lc (own:=[("numbers",3)]) rfl sc35.nd (pi_list (pv 0)) (blkOk_by (N:=["fitting","first","second","numbers"]) (sc:=defScope s_35) (by decide +kernel)) (fun _ _ _ _ _=>(pN 3 sc35.nd)) (fun _ _ _ _ _=>pts_nil) (fun _ _ _ _ _=>(pe_op op_sub (pe_ix (ix_listB (K:=K) rfl) (pv 3) (pv 1) (fun _ _=>rfl)) (pe_ix (ix_listB (K:=K) rfl) (pv 3) (pv 2) (fun _ _=>rfl))))) pa_nil)))),?_⟩
 walk_at "rd"
 obtain ⟨prs,f1,f2,f3⟩:=hf.at_.prs
 have hpl:prs.length<=5000:=by have:=hf.len;rw [f1,List.length_map] at this;exact this
 refine ⟨⟨_,SqL.of f2⟩,fun D hD=>?_⟩
 refine comp_of (yl_list (K:=K) (SqL.of f2)) hD (fun i=>(prizeGaps (rs.take i) l m).map V.int) rfl (fun i hi=>sml (by rw [List.length_map] at hi;unfold prizeGaps;simp;omega)) (fun i H' v A y=>?_) (fun H' s' e=>?_)
 ·obtain ⟨pr,hpr,rfl⟩:∃ pr,prs[i]?=some pr/\v=V.ref pr.1:=by
   rw [List.getElem?_map] at y
   cases e:prs[i]? with
   | none=>rw [e] at y;cases y
   | some pr=>rw [e] at y;exact ⟨pr,rfl,(Option.some.inj y).symm⟩
  have hm':=List.mem_of_getElem? hpr
  have hrow:rs[i]?=some pr.2:=by rw [f1,List.getElem?_map,hpr];rfl
  have hmr:=hf.sub _ (List.mem_of_getElem? hrow)
  have hlr:=rows_len hmr
  have hat:=A.same _ _ (f3 pr hm')
  walk_at "rd"
  refine ⟨_,SqL.of hat,_,atI_nat (nv_at (by omega)),_,SqL.of hat,_,atI_nat (nv_at (by omega)),?_⟩
  walk_at "rd"
  refine A.yes (Same.refl _) ?_
  unfold prizeGaps
  rw [take_snoc hrow,List.map_append,List.map_append]
  rfl
 ·walk_at "rd"
  rw [List.length_map,show prs.length=rs.length by rw [f1];simp,List.take_length] at e
  exact ⟨D,_,rfl,SqL.of e,by unfold prizeGaps;rw [List.length_map];exact hne,q H' s'⟩
theorem sc36:FnScope ["told","shares","fitting","kind","first","second"] ["told","shares","fitting","kind","first","second"] (defScope s_36):=⟨rfl,rfl,rfl,by decide +kernel,rfl,by decide +kernel,by decide +kernel⟩
theorem ok36 (F:Fun K "some_agree" "some_agree" s_36 f fd) (T:Txt K mg CT CS) (c_15:Callee P w K mg base "prize_gaps" 2 ["told","shares","first","second"] (spPrizeGaps K CT)) (c_19:Callee P w K mg base "agreeing" 3 ["kind","gaps","rows"] (spAgreeing K)):FnOk P w K mg base CX0 4 f fd ["told","shares","fitting","kind","first","second"] (spSomeAgree K CT):=by
 refine F.ok sc36 (fun vs H Q E h=>by obtain ⟨_,_,_,_,_,_,_,_,_,_,rfl,_⟩:=h;rfl) (fun cdv A outer s H vs Q E hr h=>?_)
 obtain ⟨Z,a,sl,fl,b,x,rs,k,l,m,rfl,ht,hx,hn,hf,hl,hm,q⟩:=h
 refine ⟨_,(pss_one (ps_ret (pe_cmpR op_gt (pe_callB call_len_seq rfl T.b_len PySem.boot_len (pa_cons (pe_fn c_19 (rm hr) (pa_cons (pv 3) (pa_cons (pe_fn c_15 (rm hr) (pa_cons (pv 0) (pa_cons (pv 1) (pa_cons (pv 4) (pa_cons (pv 5) pa_nil))))) (pa_cons (pv 2) pa_nil)))) pa_nil)) pe_int (nomark _)))),?_⟩
 walk_at "rd"
 have ok:=ht.ok
 have:=ok.p4
 refine ⟨Z,a,sl,b,x,l,m,rfl,ht,hx,hn,hl,hm,fun p1 H1 s1 e1=>?_⟩
 refine ⟨p1,fl,(k,gapsB b x l m),rs,rfl,SqL.of e1,(hf.mono s1).at_,hf.len,fun z hz=>?_,fun l2 H2 s2 r2=>?_⟩
 ·have hmr:=hf.sub z hz
  have hlr:=rows_len hmr
  exact ⟨by rw [gapsB_length,hlr],by omega,fun n hn=>by have:=rows_in hmr n hn;omega⟩
 ·walk_at "rd"
  obtain ⟨z,as,g1,g2⟩:=r2
  refine ⟨_,.inl (SqL.of g1),?_⟩
  have e9:decide (((0:Nat):Int)<((as.map V.ref).length:Nat))=rs.any fun z=>(⟨Krag.sideOf b.prizes x (b.lot l),Krag.sideOf b.prizes x (b.lot m),k⟩:Krab.Told).holds z:=by
   rw [dec_nat_lt,List.length_map,Paired_len g2,Bool.eq_iff_iff,decide_eq_true_eq,List.length_pos_iff_exists_mem,List.any_eq_true]
   constructor
   ·rintro ⟨z,hz⟩
    obtain ⟨h1,h2⟩:=List.mem_filter.mp hz
    exact ⟨z,h1,by rw [<-agrees_told b x ⟨l,m,k⟩];exact h2⟩
   ·rintro ⟨z,h1,h2⟩
    exact ⟨z,List.mem_filter.mpr ⟨h1,by rw [<-agrees_told b x ⟨l,m,k⟩] at h2;exact h2⟩⟩
  rw [show (0:Int)=((0:Nat):Int) from rfl,e9]
  exact q H2 (s1.trans s2)
theorem ref_of {prs:List (Addr × List Nat)} {i:Nat} {v:V} (y:(prs.map fun p=>V.ref p.1)[i]?=some v):∃ pr,prs[i]?=some pr/\v=V.ref pr.1:=by
 rw [List.getElem?_map] at y
 cases e:prs[i]? with
 | none=>rw [e] at y;cases y
 | some pr=>rw [e] at y;exact ⟨pr,rfl,(Option.some.inj y).symm⟩
def tupto (s rs:List (List Nat)) (j k l:Nat):Nat:=times s (rs.take j) l+(if decide (l<k) && tops s (rs.getD j []) l then 1 else 0)
theorem times_snoc (s rs:List (List Nat)) (j l:Nat) (hj:j<rs.length):times s (rs.take (j+1)) l=times s (rs.take j) l+(if tops s (rs.getD j []) l then 1 else 0):=by
 unfold times
 rw [take_snoc (List.getElem?_eq_getElem hj),List.countP_append,List.countP_cons,List.countP_nil,List.getD_eq_getElem?_getD,List.getElem?_eq_getElem hj]
 simp
theorem range_set (g:Nat->Nat) (n k v:Nat) (h:Nat->Nat) (hk:k<n) (h1:∀ l,l ≠ k->h l=g l) (h2:h k=v):((List.range n).map g).set k v=(List.range n).map h:=by
 apply List.ext_getElem
 ·simp
 ·intro i a b
  rw [List.getElem_set]
  simp only [List.getElem_map,List.getElem_range]
  split
  ·rename_i e;subst e;exact h2.symm
  ·rename_i e;exact (h1 i (fun z=>e z.symm)).symm
theorem max_both {v:List Nat} {G:Int->Prop} (h:∀ M:Int,M=((v.foldl max 0:Nat):Int)->G M):(∀ m,m ∈ ni v->(∀ n ∈ ni v,n<=m)->G m)/\(ni v=[]->G 0):=by
 refine ⟨fun m h1 h2=>h m (max_ni h1 h2),fun hz=>h 0 ?_⟩
 have:v=[]:=by
  cases v with
  | nil=>rfl
  | cons c r=>cases hz
 rw [this];rfl
theorem sc37:FnScope ["told","fitting","first","second","ahead","other"] ["told","fitting","first","second"] (defScope s_37):=⟨rfl,rfl,rfl,by decide +kernel,rfl,by decide +kernel,by decide +kernel⟩
theorem ok37 (F:Fun K "no_worse_in_each_world" "no_worse_in_each_world" s_37 f fd) (T:Txt K mg CT CS) (c_35:Callee P w K mg base "prize_surely_more" 2 ["fitting","first","second"] spPrizeMore):FnOk P w K mg base CX0 3 f fd ["told","fitting","first","second"] (spNoWorse CT):=by
 refine F.ok sc37 (fun vs H Q E h=>by obtain ⟨_,_,_,_,_,_,_,rfl,_⟩:=h;rfl) (fun cdv A outer s H vs Q E hr h=>?_)
 obtain ⟨Z,a,fl,b,rs,l,m,rfl,ht,hf,hne,hl,hm,q⟩:=h
 refine ⟨_,(pss_cons (ps_for PassesOwn.never rfl (pi_zip rfl T.b_zip (pa_cons (pe_ix ix_list (pe_lots T (pv 0)) (pv 2) (fun _ _=>rfl)) (pa_cons (pe_ix ix_list (pe_lots T (pv 0)) (pv 3) (fun _ _=>rfl)) pa_nil))) (pg_tup (n:=2) rfl (pgs_cons (pN 4 sc37.nd) (pgs_cons (pN 5 sc37.nd) pgs_nil)))
   (pss_one (ps_if (pt_cmpR op_eq (pe_fn c_35 (rm hr) (pa_cons (pv 1) (pa_cons (pv 4) (pa_cons (pv 5) pa_nil)))) pe_int (nomark _)) (pss_one (ps_ret pe_bl)) pss_nil)))
  (pss_one (ps_ret pe_bl))),?_⟩
 walk_at "rd"
 have ok:=ht.ok
 obtain ⟨o1,o2⟩:=lot_ok ok hl
 obtain ⟨o3,o4⟩:=lot_ok ok hm
 refine ⟨Z,b,H,ht,Same.refl _,fun ll hll=>?_⟩
 obtain ⟨as,e1,e2,e3⟩:=hll.row
 obtain ⟨la,e4,e5,e6⟩:=e3 l hl
 refine ⟨_,SqL.of e2,_,ref_at e4,?_⟩
 refine ⟨Z,b,H,ht,Same.refl _,fun l2 hl2=>?_⟩
 obtain ⟨as',g1,g2,g3⟩:=hl2.row
 obtain ⟨ma,g4,g5,g6⟩:=g3 m hm
 refine ⟨_,SqL.of g2,_,ref_at g4,?_⟩
 rw [show b.lots.getD l []=b.lot l from rfl] at e6
 rw [show b.lots.getD m []=b.lot m from rfl] at g6
 walk_at "rd"
 obtain ⟨Pv,hPv⟩:∃ Pv:Nat->L2.St->Hp->Prop,∀ i σ H',Pv i σ H' ↔ (Same H H'/\∃ (o4 o5:Option V),σ=[some (.ref a),some (.ref fl),some (.int (l:Int)),some (.int (m:Int)),o4,o5]/\((List.range i).all fun i=>!decide (above (prizeGaps rs ((b.lot l).getD i 0) ((b.lot m).getD i 0))=0))=true):=⟨_,fun _ _ _=>Iff.rfl⟩
 refine ⟨⟨_,SqL.of e6⟩,⟨_,SqL.of g6⟩,loop_of (yl_zip (K:=K) (SqL.of e6) (SqL.of g6) (by rw [nv_length,nv_length,o1,o3])) Pv (fun i σ H' h=>((hPv _ _ _).mp h).1) ((hPv _ _ _).mpr ⟨Same.refl _,none,none,rfl,rfl⟩) (fun i σ H' H2 h s=>by
  obtain ⟨h1,o4,o5,h2,h3⟩:=(hPv _ _ _).mp h
  exact (hPv _ _ _).mpr ⟨h1.trans s,o4,o5,h2,h3⟩) ?_ ?_⟩
 ·rintro i σ H' v hi h ⟨TT,y1,y2,rfl,hT,hy1,hy2⟩
  obtain ⟨s1,o5,o6,rfl,hall⟩:=(hPv _ _ _).mp h
  obtain ⟨n1,hn1,rfl⟩:=nv_get hy1
  obtain ⟨n2,hn2,rfl⟩:=nv_get hy2
  refine gtup_of hT rfl ?_
  walk_at "rd"
  refine ⟨fl,b.prizes,rs,n1,n2,rfl,hf.mono s1,hne,o2 _ (List.mem_of_getElem? hn1),o4 _ (List.mem_of_getElem? hn2),fun H2 s2=>?_⟩
  walk_at "rd"
  have hin:i<b.n:=by rw [nv_length,o1] at hi;exact hi
  refine ite2 (fun hz=>?_) (fun hz=>?_)
  ·have hz:above (prizeGaps rs n1 n2)=0:=by omega
   have:Krag.inEach rs (b.lot l) (b.lot m) b.n=false:=by
    rw [inEach_eq,List.all_eq_false]
    refine ⟨i,List.mem_range.mpr hin,?_⟩
    rw [getD_of hn1,getD_of hn2,hz];simp
   rw [<-this]
   exact q H2 (s1.trans s2)
  ·refine (hPv _ _ _).mpr ⟨s1.trans s2,_,_,rfl,?_⟩
   rw [List.range_succ,List.all_append,hall]
   simp only [List.all_cons,List.all_nil,Bool.and_true,Bool.true_and,getD_of hn1,getD_of hn2]
   have:¬ above (prizeGaps rs n1 n2)=0:=by omega
   simp [this]
 ·intro σ H' h
  obtain ⟨s1,o5,o6,rfl,hall⟩:=(hPv _ _ _).mp h
  walk_at "rd"
  rw [nv_length,o1,<-inEach_eq] at hall
  rw [<-hall]
  exact q H' s1
theorem sc38:FnScope ["told","shares","fitting","lots","weights","found","numbers","sums","most","lot","row"] ["told","shares","fitting"] (defScope s_38):=⟨rfl,rfl,rfl,by decide +kernel,rfl,by decide +kernel,by decide +kernel⟩
theorem ok38 (F:Fun K "times_at_the_top" "times_at_the_top" s_38 f fd) (T:Txt K mg CT CS) (c_14:Callee P w K mg base "prize_shares" 1 ["told","shares","lot"] (spPrizeShares K CT)) (c_16:Callee P w K mg base "weighed" 1 ["weights","numbers"] (spWeighed K)):FnOk P w K mg base CX0 2 f fd ["told","shares","fitting"] (spTimes K CT):=by
 refine F.ok sc38 (fun vs H Q E h=>by obtain ⟨_,_,_,_,_,_,_,rfl,_⟩:=h;rfl) (fun cdv A outer s H vs Q E hr h=>?_)
 obtain ⟨Z,a,sl,fl,b,x,rs,rfl,ht,hx,hn,hf,q⟩:=h
 refine ⟨_,(pss_cons (pS 3 sc38.nd (pe_listrange T (pa_cons (pe_callB call_len_seq rfl T.b_len PySem.boot_len (pa_cons (pe_lots T (pv 0)) pa_nil)) pa_nil)))
  (pss_cons (ps_setLc (i:=4) (own:=[("lot",9)]) rfl sc38.nd rfl rfl (sw_true rfl rfl rfl rfl) (pi_list (pv 3)) (blkOk_by (N:=["told","shares","fitting","lots","weights","found","numbers","sums","most","lot","row"]) (sc:=defScope s_38) (by decide +kernel)) (fun _ _ _ _ _=>(pN 9 sc38.nd)) (fun _ _ _ _ _=>pts_nil) (fun _ _ _ _ _=>(pe_fn c_14 (rm hr) (pa_cons (pv 0) (pa_cons (pv 1) (pa_cons (pv 9) pa_nil))))))
  (pss_cons (ps_setLc (i:=5) (own:=[("lot",9)]) rfl sc38.nd rfl rfl (sw_true rfl rfl rfl rfl) (pi_list (pv 3)) (blkOk_by (N:=["told","shares","fitting","lots","weights","found","numbers","sums","most","lot","row"]) (sc:=defScope s_38) (by decide +kernel)) (fun _ _ _ _ _=>(pN 9 sc38.nd)) (fun _ _ _ _ _=>pts_nil) (fun _ _ _ _ _=>pe_int))
  (pss_cons (ps_for PassesOwn.never rfl (pi_list (pv 2)) (pN 6 sc38.nd)
   (pss_cons (ps_setLc (i:=7) (own:=[("row",10)]) rfl sc38.nd rfl rfl (sw_true rfl rfl rfl rfl) (pi_list (pv 4)) (blkOk_by (N:=["told","shares","fitting","lots","weights","found","numbers","sums","most","lot","row"]) (sc:=defScope s_38) (by decide +kernel)) (fun _ _ _ _ _=>(pN 10 sc38.nd)) (fun _ _ _ _ _=>pts_nil) (fun _ _ _ _ _=>(pe_fn c_16 (rm hr) (pa_cons (pv 10) (pa_cons (pv 6) pa_nil)))))
  (pss_cons (pS 8 sc38.nd (pe_maxdef T (pv 7) pe_int))
  (pss_one (ps_for PassesOwn.never rfl (pi_list (pv 3)) (pN 9 sc38.nd)
   (pss_one (ps_if (pt_cmpR op_eq (pe_ix ix_list (pv 7) (pv 9) (fun _ _=>rfl)) (pv 8) (nomark _)) (pss_one (ps_asg (pe_op op_add (pe_ix ix_list (pv 5) (pv 9) (fun _ _=>rfl)) pe_int) (pg_sub (pv 5) (pv 9) set_list))) pss_nil)))))))
  (pss_one (ps_ret (pv 5))))))),?_⟩
 walk_at "rd"
 have ok:=ht.ok
 have p4:=ok.p4
 have p1:=ok.p1
 have o5:=ok.o5
 refine ⟨Z,b,H,ht,Same.refl _,fun ll hll=>?_⟩
 obtain ⟨as,e1,e2,e3⟩:=hll.row
 refine ⟨_,.inl (SqL.of e2),fun r1 nr1=>?_⟩
 rw [List.length_map,e1]
 refine ⟨b.lots.length,upd_same,by omega,fun lo nlo=>?_⟩
 walk_at "rd"
 have sA:Same H (upd (upd H r1 (.rng 0 (b.lots.length:Int))) lo (.lst (nv (List.range b.lots.length)))):=(Same.new nr1).trans (Same.new nlo)
 have eA:(upd (upd H r1 (.rng 0 (b.lots.length:Int))) lo (.lst (nv (List.range b.lots.length)))) lo=some (.lst (nv (List.range b.lots.length))):=upd_same
 generalize upd (upd H r1 (.rng 0 (b.lots.length:Int))) lo (.lst (nv (List.range b.lots.length)))=HA at sA eA ⊢
 have hsl:(sidesOf b x).length=b.lots.length:=by unfold sidesOf;rw [List.length_map]
 have hsat:∀ i,i<b.lots.length->(sidesOf b x)[i]?=some (Krag.sideOf b.prizes x (b.lot i)):=fun i hi=>by
  unfold sidesOf Krag.Book.lot
  rw [List.getElem?_map,List.getD_eq_getElem?_getD,List.getElem?_eq_getElem hi];rfl
 refine ⟨⟨_,SqL.of eA⟩,fun W nW=>comp_ex (yl_list (K:=K) (SqL.of eA)) nW (fun i acc H'=>∃ bs:List Addr,acc=bs.map V.ref/\bs.length=i/\Paired (fun a' z=>a' ≠ W/\H' a'=some (.lst (nv z))) bs ((sidesOf b x).take i)) ⟨[],rfl,rfl,.nil⟩
  (fun i acc H H' ⟨bs,h1,h2,h3⟩ s=>⟨bs,h1,h2,by
   refine Paired_map h3 ?_
   rintro a' z ⟨h4,h5⟩
   exact ⟨h4,s _ _ h4 h5⟩⟩) (fun i acc H' hi ⟨bs,h1,h2,h3⟩=>sml (by rw [h1,List.length_map,h2];rw [nv_length,List.length_range] at hi;omega)) (fun i acc H' v A y=>?_) (fun acc H1 s1 w1 ⟨bs,b1,b2,b3⟩=>?_)⟩
 ·obtain ⟨n,hn',rfl⟩:=nv_get y
  have hi:i<b.lots.length:=by have:=A.lt;rw [nv_length,List.length_range] at this;exact this
  have en:n=i:=by rw [List.getElem?_range hi] at hn';exact (Option.some.inj hn').symm
  subst en
  walk_at "rd"
  refine ⟨Z,a,sl,b,x,n,rfl,ht.mono (sA.trans A.same),(sA.trans A.same).seq hx,hn,hi,fun p H2 s2 e2=>?_⟩
  refine A.yes s2 ?_
  obtain ⟨bs,g1,g2,g3⟩:=A.pvs s2
  have hD1:=s2 _ _ A.at_
  have np:p ≠ W:=fun z=>by
   rw [z,hD1,g1] at e2
   injection e2 with e2
   injection e2 with e2
   have l0:=sideOf_length b.prizes x (b.lot n)
   rw [nv_refs e2.symm] at l0
   simp at l0
   omega
  refine ⟨bs++[p],by rw [g1];simp,by simp [g2],?_⟩
  rw [take_snoc (hsat n hi)]
  exact Paired_snoc g3 ⟨np,e2⟩
 ·walk_at "rd"
  subst b1
  rw [nv_length,List.length_range] at b2 b3
  rw [List.take_of_length_le (by rw [hsl];exact Nat.le_refl _)] at b3
  have lo1:=s1 _ _ eA
  refine ⟨⟨_,SqL.of lo1⟩,fun D2 n2=>comp_of (yl_list (K:=K) (SqL.of lo1)) n2 (fun i=>nv (List.replicate i 0)) rfl (fun i hi=>sml (by rw [nv_length,List.length_range] at hi;rw [nv_length,List.length_replicate];omega)) (fun i H' v A y=>?_) (fun H2 s2 d2=>?_)⟩
  ·walk_at "rd"
   refine A.yes (Same.refl _) ?_
   rw [List.replicate_succ',nv_snoc]
   rfl
  ·walk_at "rd"
   rw [nv_length,List.length_range] at d2
   have fH:=hf.mono (sA.trans s1)
   obtain ⟨prs,f1,f2,f3⟩:=fH.at_.prs
   have hpl:prs.length<=5000:=by have:=hf.len;rw [f1,List.length_map] at this;exact this
   obtain ⟨Pv,hPv⟩:∃ Pv:Nat->L2.St->Hp->Prop,∀ j σ H',Pv j σ H' ↔ (Same H1 H'/\∃ (o6 o7 o8 o9 o10:Option V),σ=[some (.ref a),some (.ref sl),some (.ref fl),some (.ref lo),some (.ref W),some (.ref D2),o6,o7,o8,o9,o10]/\H' D2=some (.lst (nv ((List.range b.lots.length).map (times (sidesOf b x) (rs.take j)))))):=⟨_,fun _ _ _=>Iff.rfl⟩
   refine ⟨⟨_,SqL.of (s2 _ _ f2)⟩,loop_of (yl_list (K:=K) (SqL.of f2)) Pv (fun i σ H' h=>((hPv _ _ _).mp h).1) ((hPv _ _ _).mpr ⟨s2,none,none,none,none,none,rfl,?_⟩) (fun i σ H' H2 h s=>by
    obtain ⟨h1,o6,o7,o8,o9,o10,h2,h3⟩:=(hPv _ _ _).mp h
    exact (hPv _ _ _).mpr ⟨h1.trans s,o6,o7,o8,o9,o10,h2,s _ _ h3⟩) ?_ ?_⟩
   ·rw [d2]
    congr 3
    apply List.ext_getElem
    ·simp
    ·intro i h1 h2
     simp [times]
   ·intro j σ H3 v hj h y
    obtain ⟨s3,o6,o7,o8,o9,o10,rfl,d3⟩:=(hPv _ _ _).mp h
    obtain ⟨pr,hpr,rfl⟩:=ref_of y
    have hm:=List.mem_of_getElem? hpr
    have hrow:rs[j]?=some pr.2:=by rw [f1,List.getElem?_map,hpr];rfl
    have hmr:=hf.sub _ (List.mem_of_getElem? hrow)
    have hlr:=rows_len hmr
    have hjl:=lt_of_get hrow
    have hgd:rs.getD j []=pr.2:=by rw [List.getD_eq_getElem?_getD,hrow];rfl
    walk_at "rd"
    refine ⟨⟨_,SqL.of (s3 _ _ w1)⟩,fun D3 n3=>comp_of (yl_list (K:=K) (SqL.of (s3 _ _ w1))) n3 (fun i=>nv (((sidesOf b x).take i).map fun u=>Krab.sum u pr.2)) rfl (fun i hi=>sml (by rw [List.length_map] at hi;rw [nv_length];simp;omega)) (fun i H' v A y=>?_) (fun H4 s4 d4=>?_)⟩
    ·have hi:i<b.lots.length:=by have:=A.lt;rw [List.length_map,b2] at this;exact this
     obtain ⟨wa,w2,w3,w4⟩:=Paired_get b3 (hsat i hi)
     have ev:v=.ref wa:=by rw [List.getElem?_map,w2] at y;exact (Option.some.inj y).symm
     subst ev
     walk_at "rd"
     refine ⟨wa,pr.1,ni (Krag.sideOf b.prizes x (b.lot i)),pr.2,rfl,?_,SqL.of (A.same _ _ (s3 _ _ (f3 pr hm))),?_,by omega,(fun n hn=>by have:=rows_in hmr n hn;omega),fun H5 s5=>?_⟩
     ·rw [<-nv_ni];exact SqL.of (A.same _ _ (s3 _ _ w4))
     ·rw [ni_length,sideOf_length,hlr]
     ·refine A.yes s5 ?_
      rw [take_snoc (hsat i hi),List.map_append,nv_append,dot_ni]
      rfl
    ·walk_at "rd"
     rw [List.length_map,b2,List.take_of_length_le (by rw [hsl];exact Nat.le_refl _)] at d4
     have n32:D3 ≠ D2:=fun z=>by rw [z,d3] at n3;cases n3
     refine ⟨ni ((sidesOf b x).map fun u=>Krab.sum u pr.2),by rw [<-nv_ni];exact SqL.of d4,And.symm (max_both ?hM)⟩
     case hM=>
      intro M hMe
      refine ⟨⟨_,SqL.of (s4 _ _ (s3 _ _ lo1))⟩,?_⟩
      obtain ⟨Pw,hPw⟩:∃ Pw:Nat->L2.St->Hp->Prop,∀ k σ H',Pw k σ H' ↔ (Same H1 H'/\∃ (o9:Option V),σ=[some (.ref a),some (.ref sl),some (.ref fl),some (.ref lo),some (.ref W),some (.ref D2),some (.ref pr.1),some (.ref D3),some (.int M),o9,o10]/\H' D3=some (.lst (nv ((sidesOf b x).map fun u=>Krab.sum u pr.2)))/\H' D2=some (.lst (nv ((List.range b.lots.length).map (tupto (sidesOf b x) rs j k))))):=⟨_,fun _ _ _=>Iff.rfl⟩
      refine loop_of (yl_list (K:=K) (SqL.of lo1)) Pw (fun i σ H' h=>((hPw _ _ _).mp h).1) ((hPw _ _ _).mpr ⟨s3.trans s4,o9,rfl,d4,?_⟩) (fun i σ H' H2 h s=>by
       obtain ⟨h1,o9,h2,h3,h4⟩:=(hPw _ _ _).mp h
       exact (hPw _ _ _).mpr ⟨h1.trans s,o9,h2,s _ _ h3,s _ _ h4⟩) ?_ ?_
      ·have e0:tupto (sidesOf b x) rs j 0=times (sidesOf b x) (rs.take j):=by
        funext l
        simp [tupto]
       rw [s4 _ _ d3,e0]
      ·intro k σ H5 v hk h y
       obtain ⟨s5,o9,rfl,e3',e2'⟩:=(hPw _ _ _).mp h
       obtain ⟨n,hn',rfl⟩:=nv_get y
       have hk:k<b.lots.length:=by rw [nv_length,List.length_range] at hk;exact hk
       have en:n=k:=by rw [List.getElem?_range hk] at hn';exact (Option.some.inj hn').symm
       subst en
       walk_at "rd"
       have hat:(nv ((sidesOf b x).map fun u=>Krab.sum u pr.2))[n]?=some (.int ((Krab.sum (Krag.sideOf b.prizes x (b.lot n)) pr.2:Nat):Int)):=by
        unfold nv
        rw [List.getElem?_map,List.getElem?_map,hsat n hk];rfl
       refine ⟨_,SqL.of e3',_,atI_nat hat,?_⟩
       walk_at "rd"
       have htop:tops (sidesOf b x) (rs.getD j []) n=decide (((Krab.sum (Krag.sideOf b.prizes x (b.lot n)) pr.2:Nat):Int)=M):=by
        unfold tops
        rw [hgd,hMe,List.getD_eq_getElem?_getD,hsat n hk,dec_nat_eq,Bool.beq_eq_decide_eq]
        rfl
       refine ite2 (fun hz=>?_) (fun hz=>?_)
       ·rw [decide_eq_true hz] at htop
        have hat2:(nv ((List.range b.lots.length).map (tupto (sidesOf b x) rs j n)))[n]?=some (.int ((tupto (sidesOf b x) rs j n n:Nat):Int)):=by
         rw [nv_at (by simpa using hk),getD_range_map _ _ _ hk]
        refine ⟨_,SqL.of e2',_,atI_nat hat2,?_⟩
        walk_at "rd"
        refine ⟨_,e2',n,ixN_nat (by rw [nv_length];simpa using hk),(hPw _ _ _).mpr ⟨s5.put n2,_,rfl,by rw [upd_ne n32];exact e3',?_⟩⟩
        rw [upd_same,show ((tupto (sidesOf b x) rs j n n:Nat):Int)+1=((tupto (sidesOf b x) rs j n n+1:Nat):Int) by omega,nv_set]
        congr 3
        refine range_set _ _ _ _ (tupto (sidesOf b x) rs j (n+1)) hk (fun l hl=>?_) ?_
        ·unfold tupto
         congr 2
         have:decide (l<n+1)=decide (l<n):=by rw [Bool.eq_iff_iff];simp;omega
         rw [this]
        ·unfold tupto
         rw [htop]
         simp
       ·refine (hPw _ _ _).mpr ⟨s5,_,rfl,e3',?_⟩
        rw [e2']
        congr 3
        apply List.map_congr_left
        intro l _
        unfold tupto
        by_cases e:l=n
        ·subst e
         rw [htop];simp [hz]
        ·have:decide (l<n+1)=decide (l<n):=by rw [Bool.eq_iff_iff];simp;omega
         rw [this]
      ·intro σ H5 h
       obtain ⟨s5,o9,rfl,e3',e2'⟩:=(hPw _ _ _).mp h
       refine (hPv _ _ _).mpr ⟨s5,_,_,_,_,_,rfl,?_⟩
       rw [e2']
       congr 3
       apply List.map_congr_left
       intro l hl
       have hl:=List.mem_range.mp hl
       rw [nv_length,List.length_range]
       unfold tupto
       rw [times_snoc _ _ _ _ hjl]
       simp [hl]
   ·intro σ H3 h
    obtain ⟨s3,o6,o7,o8,o9,o10,rfl,d3⟩:=(hPv _ _ _).mp h
    walk_at "rd"
    rw [List.length_map,show prs.length=rs.length by rw [f1];simp,List.take_length] at d3
    exact q D2 H3 ((sA.trans s1).trans s3) d3
theorem sc39:FnScope ["told","shares","fitting","least_often","often","lot","times"] ["told","shares","fitting","least_often"] (defScope s_39):=⟨rfl,rfl,rfl,by decide +kernel,rfl,by decide +kernel,by decide +kernel⟩
theorem ok39 (F:Fun K "best_lots" "best_lots" s_39 f fd) (T:Txt K mg CT CS) (c_38:Callee P w K mg base "times_at_the_top" 2 ["told","shares","fitting"] (spTimes K CT)):FnOk P w K mg base CX0 3 f fd ["told","shares","fitting","least_often"] (spBestLots K CT):=by
 refine F.ok sc39 (fun vs H Q E h=>by obtain ⟨_,_,_,_,_,_,_,_,rfl,_⟩:=h;rfl) (fun cdv A outer s H vs Q E hr h=>?_)
 obtain ⟨Z,a,sl,fl,b,x,rs,k,rfl,ht,hx,hn,hf,q⟩:=h
 refine ⟨_,(pss_cons (pS 4 sc39.nd (pe_fn c_38 (rm hr) (pa_cons (pv 0) (pa_cons (pv 1) (pa_cons (pv 2) pa_nil)))))
  (pss_one (ps_ret (pe_lc (own:=[("lot",5),("times",6)]) rfl sc39.nd (pi_enum rfl T.b_enumerate (pa_cons (pv 4) pa_nil)) (blkOk_by (N:=["told","shares","fitting","least_often","often","lot","times"]) (sc:=defScope s_39) (by decide +kernel)) (fun _ _ _ _ _=>(pg_tupB (K:=K) (n:=2) rfl rfl (pgs_cons (pN 5 sc39.nd) (pgs_cons (pN 6 sc39.nd) pgs_nil)))) (fun _ _ _ _ _=>(pts_one (pt_cmpR op_ge (pv 6) (pv 3) (nomark _)))) (fun _ _ _ _ _=>(pv 5)))))),?_⟩
 walk_at "rd"
 have o5:=ht.ok.o5
 refine ⟨Z,a,sl,fl,b,x,rs,rfl,ht,hx,hn,hf,fun p1 H1 s1 e1=>?_⟩
 walk_at "rd"
 refine ⟨⟨_,SqL.of e1⟩,fun D nD=>comp_of (yl_enum (K:=K) (SqL.of e1)) nD (fun i=>nv ((List.range i).filter fun l=>decide (k<=times (sidesOf b x) rs l))) rfl (fun i hi=>sml ?_) (fun i H' v A y=>?_) (fun H' s' e=>?_)⟩
 ·rw [nv_length]
  rw [nv_length,List.length_map,List.length_range] at hi
  exact Nat.le_trans (List.length_filter_le _ _) (by rw [List.length_range];omega)
 ·obtain ⟨TT,y,rfl,hT,hy⟩:=y
  obtain ⟨n,hn',rfl⟩:=nv_get hy
  have hi:i<b.lots.length:=by have:=A.lt;rw [nv_length,List.length_map,List.length_range] at this;exact this
  have en:n=times (sidesOf b x) rs i:=by rw [List.getElem?_map,List.getElem?_range hi] at hn';exact (Option.some.inj hn').symm
  subst en
  refine gtup_of hT rfl ?_
  walk_at "rd"
  refine ite2 (fun hz=>?_) (fun hz=>?_)
  ·refine A.yes (Same.refl _) ?_
   rw [filter_range_yes (by simp;omega),nv_snoc]
  ·refine A.no (Same.refl _) ?_
   rw [filter_range_no (by simp;omega)]
 ·rw [nv_length,List.length_map,List.length_range] at e
  exact q D H' (s1.trans s') e
structure LnAt (K:PySem.W.Frag) (CT:Addr) (H:Hp) (a sl nl:Addr) (b:Krag.Book) (x z:List Nat):Prop where
 told:∃ Z,ToldAt Z CT H a b
 sh:SqL K H sl (nv x)
 nu:SqL K H nl (nv z)
 xl:x.length=b.n
 xs:1<=x.sum/\x.sum<=10
 zr:z ∈ Krab.rows b.prizes
theorem LnAt.mono {K:PySem.W.Frag} {CT:Addr} {H H':Hp} {a sl nl:Addr} {b:Krag.Book} {x z:List Nat} (h:LnAt K CT H a sl nl b x z) (s:Same H H'):LnAt K CT H' a sl nl b x z:=by
 obtain ⟨⟨Z,t⟩,h1,h2,h3,h4,h5⟩:=h
 exact ⟨⟨Z,t.mono s⟩,s.seq h1,s.seq h2,h3,h4,h5⟩
theorem LnAt.ok {K:PySem.W.Frag} {CT:Addr} {H:Hp} {a sl nl:Addr} {b:Krag.Book} {x z:List Nat} (h:LnAt K CT H a sl nl b x z):BookOk b:=by
 obtain ⟨⟨Z,t⟩,_⟩:=h
 exact t.ok
def spSumOver (K:PySem.W.Frag) (CT:Addr):Sp:=fun vs H Q _=>∃ (a sl nl:Addr) (b:Krag.Book) (x z:List Nat) (l c:Nat),vs=[.ref a,.ref sl,.ref nl,.int (l:Int),.int (c:Int)]/\LnAt K CT H a sl nl b x z/\l<b.lots.length/\∀ H',Same H H'->Q (.int (sumOver x z (b.lot l) c:Nat)) H'
def spBestOver (K:PySem.W.Frag) (CT:Addr):Sp:=fun vs H Q _=>∃ (a sl nl:Addr) (b:Krag.Book) (x z:List Nat) (c:Nat),vs=[.ref a,.ref sl,.ref nl,.int (c:Int)]/\LnAt K CT H a sl nl b x z/\0<b.lots.length/\∀ H',Same H H'->Q (.int (bestOver b.lots x z c:Nat)) H'
def spLearning (K:PySem.W.Frag) (CT:Addr):Sp:=fun vs H Q _=>∃ (a sl nl cl:Addr) (b:Krag.Book) (x z cs:List Nat),vs=[.ref a,.ref sl,.ref nl,.ref cl]/\LnAt K CT H a sl nl b x z/\0<b.lots.length/\H cl=some (.lst (nv cs))/\cs.length<=1000/\bestOver b.lots x z (2 ^ b.n - 1)<=(cs.map fun c=>bestOver b.lots x z c).sum/\
 ∀ p H',Same H H'->H' p=some (.lst ((Krag.fraction ((cs.map fun c=>bestOver b.lots x z c).sum - bestOver b.lots x z (2 ^ b.n - 1)) x.sum).map V.int))->Q (.ref p) H'
def spWhether (K:PySem.W.Frag) (CT:Addr):Sp:=fun vs H Q _=>∃ (a sl nl:Addr) (b:Krag.Book) (x z:List Nat) (c:Nat),vs=[.ref a,.ref sl,.ref nl,.int (c:Int)]/\LnAt K CT H a sl nl b x z/\0<b.lots.length/\c<2 ^ b.n/\
 ∀ p H',Same H H'->H' p=some (.lst ((Krag.fraction (Krag.learnt b x z c - Krag.unlearnt b x z) x.sum).map V.int))->Q (.ref p) H'
def allS (b:Krag.Book) (x z:List Nat):Nat:=((List.range b.n).map fun i=>x.getD i 0 * (b.lots.map fun l=>z.getD (l.getD i 0) 0).foldl max 0).foldl (fun a c=>a+c) 0
def spLearnAll (K:PySem.W.Frag) (CT:Addr):Sp:=fun vs H Q _=>∃ (a sl nl:Addr) (b:Krag.Book) (x z:List Nat),vs=[.ref a,.ref sl,.ref nl]/\LnAt K CT H a sl nl b x z/\0<b.lots.length/\
 ∀ p H',Same H H'->H' p=some (.lst ((Krag.fraction (allS b x z - Krag.unlearnt b x z) x.sum).map V.int))->Q (.ref p) H'
theorem unlearnt_at {b:Krag.Book} {x z:List Nat} (ok:BookOk b) (hx:x.length=b.n) (hz:z ∈ Krab.rows b.prizes):Krag.unlearnt b x z=bestOver b.lots x z (2 ^ b.n - 1):=by
 rw [unlearnt_eq b x z (rows_len hz) fun l hl i hi=>?_,hx]
 obtain ⟨h1,h2⟩:=ok.lt l hl
 exact h2 _ (getD_mem (by omega))
theorem sc42:FnScope ["told","shares","numbers","lot","chosen","total","world","prize"] ["told","shares","numbers","lot","chosen"] (defScope s_42):=⟨rfl,rfl,rfl,by decide +kernel,rfl,by decide +kernel,by decide +kernel⟩
theorem ok42 (F:Fun K "sum_over" "sum_over" s_42 f fd) (T:Txt K mg CT CS) (c_22:Callee P w K mg base "is_member" 1 ["chosen","place"] spIsMember):FnOk P w K mg base CX0 2 f fd ["told","shares","numbers","lot","chosen"] (spSumOver K CT):=by
 refine F.ok sc42 (fun vs H Q E h=>by obtain ⟨_,_,_,_,_,_,_,_,rfl,_⟩:=h;rfl) (fun cdv A outer s H vs Q E hr h=>?_)
 obtain ⟨a,sl,nl,b,x,z,l,c,rfl,hL,hl,q⟩:=h
 refine ⟨_,(pss_cons (pS 5 sc42.nd pe_int)
  (pss_cons (ps_for PassesOwn.never rfl (pi_enum rfl T.b_enumerate (pa_cons (pe_ix ix_list (pe_lots T (pv 0)) (pv 3) (fun _ _=>rfl)) pa_nil)) (pg_tup (n:=2) rfl (pgs_cons (pN 6 sc42.nd) (pgs_cons (pN 7 sc42.nd) pgs_nil)))
   (pss_one (ps_if (pt_val (pe_fn c_22 (rm hr) (pa_cons (pv 4) (pa_cons (pv 6) pa_nil)))) (pss_one (pS 5 sc42.nd (pe_op op_add (pv 5) (pe_op op_mul (pe_ix ix_list (pv 1) (pv 6) (fun _ _=>rfl)) (pe_ix ix_list (pv 2) (pv 7) (fun _ _=>rfl)))))) pss_nil)))
  (pss_one (ps_ret (pv 5))))),?_⟩
 walk_at "rd"
 have ok:=hL.ok
 obtain ⟨⟨Z,ht⟩,hx,hz,xl,xs,zr⟩:=hL
 obtain ⟨o1,o2⟩:=lot_ok ok hl
 have zl:=rows_len zr
 refine ⟨Z,b,H,ht,Same.refl _,fun ll hll=>?_⟩
 obtain ⟨as,e1,e2,e3⟩:=hll.row
 obtain ⟨la,e4,e5,e6⟩:=e3 l hl
 refine ⟨_,SqL.of e2,_,ref_at e4,?_⟩
 rw [show b.lots.getD l []=b.lot l from rfl] at e6
 walk_at "rd"
 obtain ⟨Pv,hPv⟩:∃ Pv:Nat->L2.St->Hp->Prop,∀ i σ H',Pv i σ H' ↔ (Same H H'/\∃ (o6 o7:Option V),σ=[some (.ref a),some (.ref sl),some (.ref nl),some (.int (l:Int)),some (.int (c:Int)),some (.int (sumPart x z (b.lot l) c i:Nat)),o6,o7]):=⟨_,fun _ _ _=>Iff.rfl⟩
 refine ⟨⟨_,SqL.of e6⟩,loop_of (yl_enum (K:=K) (SqL.of e6)) Pv (fun i σ H' h=>((hPv _ _ _).mp h).1) ((hPv _ _ _).mpr ⟨Same.refl _,none,none,rfl⟩) (fun i σ H' H2 h s=>by
  obtain ⟨h1,o4,o5,h2⟩:=(hPv _ _ _).mp h
  exact (hPv _ _ _).mpr ⟨h1.trans s,o4,o5,h2⟩) ?_ ?_⟩
 ·rintro i σ H' v hi h ⟨TT,y,rfl,hT,hy⟩
  obtain ⟨s2,o6,o7,rfl⟩:=(hPv _ _ _).mp h
  obtain ⟨n,hn',rfl⟩:=nv_get hy
  have hnp:n<b.prizes:=o2 n (List.mem_of_getElem? hn')
  have hil:i<x.length:=by rw [xl,<-o1];exact lt_of_get hn'
  have hxi:x.getD i 0<=10:=Nat.le_trans (le_sum_of_mem (getD_mem hil)) xs.2
  refine gtup_of hT rfl ?_
  walk_at "rd"
  refine ⟨c,i,rfl,?_⟩
  walk_at "rd"
  refine ite2 (fun hb=>?_) (fun hb=>?_)
  ·refine ⟨_,s2.seq hx,_,atI_nat (nv_at hil),_,s2.seq hz,_,atI_nat (nv_at (by omega)),?_⟩
   walk_at "rd"
   refine ⟨.inl ⟨by omega,by omega⟩,(hPv _ _ _).mpr ⟨s2,some (.int (i:Int)),some (.int (n:Int)),?_⟩⟩
   rw [sumPart_succ,if_pos hb,getD_of hn',Int.natCast_add,Int.natCast_mul]
  ·refine (hPv _ _ _).mpr ⟨s2,some (.int (i:Int)),some (.int (n:Int)),?_⟩
   rw [sumPart_succ,if_neg hb]
   rfl
 ·intro σ H' h
  obtain ⟨s2,o6,o7,rfl⟩:=(hPv _ _ _).mp h
  walk_at "rd"
  rw [nv_length,o1,<-xl]
  exact q H' s2
theorem sc43:FnScope ["told","shares","numbers","chosen","lot"] ["told","shares","numbers","chosen"] (defScope s_43):=⟨rfl,rfl,rfl,by decide +kernel,rfl,by decide +kernel,by decide +kernel⟩
theorem ok43 (F:Fun K "best_over" "best_over" s_43 f fd) (T:Txt K mg CT CS) (c_42:Callee P w K mg base "sum_over" 2 ["told","shares","numbers","lot","chosen"] (spSumOver K CT)):FnOk P w K mg base CX0 3 f fd ["told","shares","numbers","chosen"] (spBestOver K CT):=by
 refine F.ok sc43 (fun vs H Q E h=>by obtain ⟨_,_,_,_,_,_,_,rfl,_⟩:=h;rfl) (fun cdv A outer s H vs Q E hr h=>?_)
 obtain ⟨a,sl,nl,b,x,z,c,rfl,hL,hne,q⟩:=h
 refine ⟨_,(pss_one (ps_ret (pe_callB (cr_max rfl) rfl T.b_max boot_max (pa_cons (pe_lc (own:=[("lot",4)]) rfl sc43.nd (pi_range1 rfl T.b_range (pa_cons (pe_callB call_len_seq rfl T.b_len PySem.boot_len (pa_cons (pe_lots T (pv 0)) pa_nil)) pa_nil)) (blkOk_by (N:=["told","shares","numbers","chosen","lot"]) (sc:=defScope s_43) (by decide +kernel)) (fun _ _ _ _ _=>(pN 4 sc43.nd)) (fun _ _ _ _ _=>pts_nil) (fun _ _ _ _ _=>(pe_fn c_42 (rm hr) (pa_cons (pv 0) (pa_cons (pv 1) (pa_cons (pv 2) (pa_cons (pv 4) (pa_cons (pv 3) pa_nil)))))))) pa_nil)))),?_⟩
 walk_at "rd"
 have ok:=hL.ok
 have o5:=ok.o5
 obtain ⟨Z,ht⟩:=hL.told
 refine ⟨Z,b,H,ht,Same.refl _,fun ll hll=>?_⟩
 obtain ⟨as,e1,e2,e3⟩:=hll.row
 refine ⟨_,.inl (SqL.of e2),?_⟩
 rw [List.length_map,e1]
 refine ⟨by omega,by omega,fun D nD=>comp_of (yl_range (H1:=H) 0 _) nD (fun i=>nv ((b.lots.take i).map fun l=>sumOver x z l c)) rfl (fun i hi=>sml (by rw [nv_length];simp;omega)) (fun i H' v A y=>?_) (fun H' s' e=>?_)⟩
 ·subst y
  have hi:i<b.lots.length:=by have:=A.lt;omega
  rw [Int.zero_add]
  walk_at "rd"
  refine ⟨a,sl,nl,b,x,z,i,c,rfl,hL.mono A.same,hi,fun H2 s2=>A.yes s2 ?_⟩
  have hli:b.lots[i]?=some (b.lot i):=by unfold Krag.Book.lot;rw [List.getD_eq_getElem?_getD,List.getElem?_eq_getElem hi];rfl
  rw [take_snoc hli,List.map_append,nv_append]
  rfl
 ·walk_at "rd"
  rw [Int.toNat_natCast,List.take_length,nv_ni] at e
  refine ⟨_,SqL.of e,by rw [ni_length,List.length_map];exact hne,fun m h1 h2=>?_⟩
  rw [max_ni h1 h2]
  exact q H' s'
theorem sc44:FnScope ["told","shares","numbers","cases","learnt","at_once","case"] ["told","shares","numbers","cases"] (defScope s_44):=⟨rfl,rfl,rfl,by decide +kernel,rfl,by decide +kernel,by decide +kernel⟩
theorem ok44 (F:Fun K "worth_of_learning" "worth_of_learning" s_44 f fd) (T:Txt K mg CT CS) (c_43:Callee P w K mg base "best_over" 3 ["told","shares","numbers","chosen"] (spBestOver K CT)) (c_25:Callee P w K mg base "set_of_all" 1 ["size"] spSetOfAll) (c_41:Callee P w K mg base "fraction" 2 ["upper","lower"] spFraction):FnOk P w K mg base CX0 4 f fd ["told","shares","numbers","cases"] (spLearning K CT):=by
 refine F.ok sc44 (fun vs H Q E h=>by obtain ⟨_,_,_,_,_,_,_,_,rfl,_⟩:=h;rfl) (fun cdv A outer s H vs Q E hr h=>?_)
 obtain ⟨a,sl,nl,cl,b,x,z,cs,rfl,hL,hne,hc,hcl,hle,q⟩:=h
 refine ⟨_,(pss_cons (pS 4 sc44.nd (pe_callB (cr_sum rfl) rfl T.b_sum boot_sum (pa_cons (pe_lc (own:=[("case",6)]) rfl sc44.nd (pi_list (pv 3)) (blkOk_by (N:=["told","shares","numbers","cases","learnt","at_once","case"]) (sc:=defScope s_44) (by decide +kernel)) (fun _ _ _ _ _=>(pN 6 sc44.nd)) (fun _ _ _ _ _=>pts_nil) (fun _ _ _ _ _=>(pe_fn c_43 (rm hr) (pa_cons (pv 0) (pa_cons (pv 1) (pa_cons (pv 2) (pa_cons (pv 6) pa_nil))))))) pa_nil)))
  (pss_cons (pS 5 sc44.nd (pe_fn c_43 (rm hr) (pa_cons (pv 0) (pa_cons (pv 1) (pa_cons (pv 2) (pa_cons (pe_fn c_25 (rm hr) (pa_cons (pe_worlds T (pv 0)) pa_nil)) pa_nil))))))
  (pss_one (ps_ret (pe_fn c_41 (rm hr) (pa_cons (pe_op op_sub (pv 4) (pv 5)) (pa_cons (pe_callB (cr_sum rfl) rfl T.b_sum boot_sum (pa_cons (pv 1) pa_nil)) pa_nil))))))),?_⟩
 walk_at "rd"
 have ok:=hL.ok
 have n4:=ok.n4
 obtain ⟨Z,ht⟩:=hL.told
 refine ⟨⟨_,SqL.of hc⟩,fun D nD=>comp_of (yl_list (K:=K) (SqL.of hc)) nD (fun i=>nv ((cs.take i).map fun c=>bestOver b.lots x z c)) rfl (fun i hi=>sml (by rw [nv_length] at hi;rw [nv_length];simp;omega)) (fun i H' v A y=>?_) (fun H' s' e=>?_)⟩
 ·obtain ⟨n,hn',rfl⟩:=nv_get y
  walk_at "rd"
  refine ⟨a,sl,nl,b,x,z,n,rfl,hL.mono A.same,hne,fun H2 s2=>A.yes s2 ?_⟩
  rw [take_snoc hn',List.map_append,nv_append]
  rfl
 ·walk_at "rd"
  rw [nv_length,List.take_length,nv_ni] at e
  refine ⟨_,SqL.of e,Z,b,ht.mono s',b.n,rfl,by omega,?_⟩
  refine ⟨a,sl,nl,b,x,z,_,rfl,hL.mono s',hne,fun H2 s2=>?_⟩
  walk_at "rd"
  refine ⟨ni x,by rw [<-nv_ni];exact (s'.trans s2).seq hL.sh,?_⟩
  rw [ni_sum,ni_sum,<-Int.ofNat_sub hle]
  have:=hL.xs
  refine ⟨_,x.sum,rfl,by omega,by omega,fun p np=>q p _ ((s'.trans s2).trans (Same.new np)) upd_same⟩
theorem sc45:FnScope ["told","shares","numbers","chosen","others"] ["told","shares","numbers","chosen"] (defScope s_45):=⟨rfl,rfl,rfl,by decide +kernel,rfl,by decide +kernel,by decide +kernel⟩
theorem ok45 (F:Fun K "worth_of_learning_whether" "worth_of_learning_whether" s_45 f fd) (T:Txt K mg CT CS) (c_25:Callee P w K mg base "set_of_all" 1 ["size"] spSetOfAll) (c_44:Callee P w K mg base "worth_of_learning" 4 ["told","shares","numbers","cases"] (spLearning K CT)):FnOk P w K mg base CX0 5 f fd ["told","shares","numbers","chosen"] (spWhether K CT):=by
 refine F.ok sc45 (fun vs H Q E h=>by obtain ⟨_,_,_,_,_,_,_,rfl,_⟩:=h;rfl) (fun cdv A outer s H vs Q E hr h=>?_)
 obtain ⟨a,sl,nl,b,x,z,c,rfl,hL,hne,hc,q⟩:=h
 refine ⟨_,(pss_cons (pS 4 sc45.nd (pe_op op_sub (pe_fn c_25 (rm hr) (pa_cons (pe_worlds T (pv 0)) pa_nil)) (pv 3)))
  (pss_one (ps_ret (pe_fn c_44 (rm hr) (pa_cons (pv 0) (pa_cons (pv 1) (pa_cons (pv 2) (pa_cons (pe_lst (pa_cons (pv 3) (pa_cons (pv 4) pa_nil))) pa_nil)))))))),?_⟩
 walk_at "rd"
 have ok:=hL.ok
 have n4:=ok.n4
 obtain ⟨Z,ht⟩:=hL.told
 refine ⟨Z,b,ht,b.n,rfl,by omega,?_⟩
 walk_at "rd"
 rw [show ((2 ^ b.n - 1:Nat):Int) - (c:Int)=((2 ^ b.n - 1 - c:Nat):Int) by omega]
 refine ⟨sml' (by decide),fun p np=>?_⟩
 have xl:=hL.xl
 refine ⟨a,sl,nl,p,b,x,z,[c,2 ^ b.n - 1 - c],rfl,hL.mono (Same.new np),hne,upd_same,(by simp),?_,fun p2 H2 s2 e2=>?_⟩
 ·refine at_once_le _ _ _ _ _ fun l hl=>?_
  have:=split_two x z l c (by rw [xl];exact hc)
  rw [xl] at this
  exact this
 ·refine q p2 H2 ((Same.new np).trans s2) ?_
  rw [e2,unlearnt_at ok xl hL.zr]
  unfold Krag.learnt
  rw [part_true,part_false b x z c (by rw [xl];exact hc),xl]
  simp
theorem sc46:FnScope ["told","shares","numbers","worlds","world"] ["told","shares","numbers"] (defScope s_46):=⟨rfl,rfl,rfl,by decide +kernel,rfl,by decide +kernel,by decide +kernel⟩
theorem ok46 (F:Fun K "worth_of_learning_all" "worth_of_learning_all" s_46 f fd) (T:Txt K mg CT CS) (c_44:Callee P w K mg base "worth_of_learning" 4 ["told","shares","numbers","cases"] (spLearning K CT)):FnOk P w K mg base CX0 5 f fd ["told","shares","numbers"] (spLearnAll K CT):=by
 refine F.ok sc46 (fun vs H Q E h=>by obtain ⟨_,_,_,_,_,_,rfl,_⟩:=h;rfl) (fun cdv A outer s H vs Q E hr h=>?_)
 obtain ⟨a,sl,nl,b,x,z,rfl,hL,hne,q⟩:=h
 refine ⟨_,(pss_cons (ps_setLc (i:=3) (own:=[("world",4)]) rfl sc46.nd rfl rfl (sw_true rfl rfl rfl rfl) (pi_range1 rfl T.b_range (pa_cons (pe_worlds T (pv 0)) pa_nil)) (blkOk_by (N:=["told","shares","numbers","worlds","world"]) (sc:=defScope s_46) (by decide +kernel)) (fun _ _ _ _ _=>(pN 4 sc46.nd)) (fun _ _ _ _ _=>pts_nil) (fun _ _ _ _ _=>(pe_op op_shl pe_int (pv 4))))
  (pss_one (ps_ret (pe_fn c_44 (rm hr) (pa_cons (pv 0) (pa_cons (pv 1) (pa_cons (pv 2) (pa_cons (pv 3) pa_nil)))))))),?_⟩
 walk_at "rd"
 have ok:=hL.ok
 have n4:=ok.n4
 have xl:=hL.xl
 obtain ⟨Z,ht⟩:=hL.told
 refine ⟨Z,b,ht,by omega,by omega,fun D nD=>comp_of (yl_range (H1:=H) 0 _) nD (fun i=>nv ((List.range i).map fun w=>2 ^ w)) rfl (fun i hi=>sml (by rw [nv_length];simp;omega)) (fun i H' v A y=>?_) (fun H' s' e=>?_)⟩
 ·subst y
  rw [Int.zero_add]
  have hi:i<b.n:=by have:=A.lt;omega
  walk_at "rd"
  refine ⟨by omega,by omega,by decide,A.yes (Same.refl _) ?_⟩
  rw [List.range_succ,List.map_append,nv_append,Int.one_mul,Int.toNat_natCast,pow_cast]
  rfl
 ·walk_at "rd"
  rw [Int.toNat_natCast] at e
  refine ⟨a,sl,nl,D,b,x,z,_,rfl,hL.mono s',hne,e,(by simp;omega),?_,fun p2 H2 s2 e2=>?_⟩
  ·refine at_once_le _ _ _ _ _ fun l hl=>?_
   have:=split_all x z l
   rw [xl] at this
   exact this
  ·refine q p2 H2 (s'.trans s2) ?_
   rw [e2,unlearnt_at ok xl hL.zr]
   unfold allS
   rw [learnAll_eq b.lots x z b.n xl]
section
open Krae (less)
def kk (u v:Nat):List Key:=[Sum.inl (u:Int),Sum.inl (v:Int)]
theorem kk_inj {u v u' v':Nat} (h:kk u v=kk u' v'):u=u'/\v=v':=by
 unfold kk at h
 injection h with h1 h2
 injection h2 with h2 _
 have h1:=Sum.inl.inj h1
 have h2:=Sum.inl.inj h2
 exact ⟨by omega,by omega⟩
structure KnAt (n:Nat) (H:Hp) (d:Addr) (R:KR):Prop where
 ex:∃ kvs:List (List Key × V),H d=some (.dT kvs)/\(∀ u v:Nat,(valV kvs (kk u v)).getD (.int 0)=.int ((R u v:Nat):Int))/\kvs.length+meas n R<=512
 two:∀ u v,R u v<=2
theorem KnAt.mono {n:Nat} {H H':Hp} {d:Addr} {R:KR} (h:KnAt n H d R) (s:Same H H'):KnAt n H' d R:=by
 obtain ⟨⟨kvs,e,k⟩,t⟩:=h
 exact ⟨⟨kvs,s _ _ e,k⟩,t⟩
def andNot (n:Nat):Prop:=∀ a,a<2 ^ n->∀ b,b<2 ^ n->Builtin.bitAnd ((a:Nat):Int) (Builtin.bitNot ((b:Nat):Int))=((less a b:Nat):Int)
theorem and4:andNot 4:=by unfold andNot;decide +kernel
theorem and_not {n:Nat} (h:n<=4) {a b:Nat} (ha:a<2 ^ n) (hb:b<2 ^ n):Builtin.bitAnd ((a:Nat):Int) (Builtin.bitNot ((b:Nat):Int))=((less a b:Nat):Int):=by
 have h16:2 ^ n<=2 ^ 4:=Nat.pow_le_pow_right (by decide) h
 exact and4 a (Nat.lt_of_lt_of_le ha h16) b (Nat.lt_of_lt_of_le hb h16)
def spStanding:Sp:=fun vs H Q _=>∃ (d:Addr) (n:Nat) (R:KR) (a b:Nat),vs=[.ref d,.int (a:Int),.int (b:Int)]/\n<=4/\KnAt n H d R/\a<2 ^ n/\b<2 ^ n/\∀ H',Same H H'->Q (.int (Rv R a b:Nat)) H'
def spTakeDown:Sp:=fun vs H Q _=>∃ (d:Addr) (n:Nat) (R:KR) (a b lv:Nat),vs=[.ref d,.int (a:Int),.int (b:Int),.int (lv:Int)]/\1<=n/\n<=4/\KnAt n H d R/\a<2 ^ n/\b<2 ^ n/\lv<=2/\
 ∀ H',SameD d H H'->KnAt n H' d (tdR R a b lv)->Q (.bl (decide (Rv R a b<lv))) H'
def spTakeTold:Sp:=fun vs H Q _=>∃ (d:Addr) (n:Nat) (R:KR) (t:Krae.Told),vs=[.ref d,.int (t.kind:Int),.int (t.a:Int),.int (t.b:Int)]/\1<=n/\n<=4/\KnAt n H d R/\t.a<2 ^ n/\t.b<2 ^ n/\∀ H',SameD d H H'->KnAt n H' d (tdT R t)->Q .non H'
def spKnown (CT:Addr):Sp:=fun vs H Q _=>∃ (Z:Addr->Prop) (a:Addr) (b:Krag.Book),vs=[.ref a]/\ToldAt Z CT H a b/\∀ d H',H d=none->Same H H'->KnAt b.n H' d (R3 b.n b.worlds.told)->Q (.ref d) H'
structure Goes (n:Nat) (l:List Krae.Told) (R R':KR) (news:Bool) (C:Prop):Prop where
 up:∀ u v,R u v<=R' u v
 ok:Kok n l R'
 no:news=false->R'=R/\C
 yes:news=true->meas n R'<meas n R
def onw (n:Nat) (R:KR) (a b:Nat) (k:Nat):Prop:=Rv R a b ≠ 0->∀ c,c<k->Rv R b c ≠ 0->max (Rv R a b) (Rv R b c)<=Rv R a c
def spGoOn:Sp:=fun vs H Q _=>∃ (d:Addr) (n:Nat) (l:List Krae.Told) (R:KR) (a b:Nat),vs=[.ref d,.int ((2 ^ n:Nat):Int),.int (a:Int),.int (b:Int)]/\1<=n/\n<=4/\KnAt n H d R/\Kok n l R/\a<2 ^ n/\b<2 ^ n/\
 ∀ (R':KR) (news:Bool) H',SameD d H H'->KnAt n H' d R'->Goes n l R R' news (onw n R a b (2 ^ n))->Q (.bl news) H'
def spGoAll:Sp:=fun vs H Q _=>∃ (d:Addr) (n:Nat) (l:List Krae.Told) (R:KR),vs=[.ref d,.int ((2 ^ n:Nat):Int)]/\1<=n/\n<=4/\KnAt n H d R/\Kok n l R/\
 ∀ (R':KR) (news:Bool) H',SameD d H H'->KnAt n H' d R'->Goes n l R R' news (∀ a,a<2 ^ n->∀ b,b<2 ^ n->onw n R a b (2 ^ n))->Q (.bl news) H'
def spByRules (CT:Addr):Sp:=fun vs H Q _=>∃ (Z:Addr->Prop) (a:Addr) (b:Krag.Book) (u v:Nat),vs=[.ref a,.int (u:Int),.int (v:Int)]/\ToldAt Z CT H a b/\u<2 ^ b.n/\v<2 ^ b.n/\∀ H',Same H H'->Q (.int (Krae.own b.n b.worlds.rel u v:Nat)) H'
theorem SameD.trans {d:Addr} {H H1 H2:Hp} (a:SameD d H H1) (b:SameD d H1 H2):SameD d H H2:=fun c o hc h=>b c o hc (a c o hc h)
theorem _root_.L2.Same.d {H H':Hp} (s:Same H H') (d:Addr):SameD d H H':=fun b o _ h=>s b o h
theorem SameD.same {d:Addr} {H0 H H':Hp} (s:SameD d H H') (h:Same H0 H) (n:H0 d=none):Same H0 H':=fun b o e=>s b o (fun z=>by rw [z,n] at e;cases e) (h b o e)
section
variable {X:Cx} {p pos:Pos} {e:Expr} {es:List Expr} {t:TA} {CT CS:Addr}
def rMax2:List V->Hp->VK->Prop:=fun xs H Q=>∃ i j,xs=[V.int i,V.int j]/\Q (.int (if j > i then j else i)) H
theorem pe_max2 (T:Txt X.K X.mg CT CS) (ha:PA X (e::es) t) (hc:X.calm=true:=by rfl) (hg:Gl X "max":=by rfl)
  (he:starEach (e::es) X.env=(false,eval e X.env)::starEach es X.env:=by rfl) (hpl:(backTo pos (starEach es X.env)).any (·.1)=false:=by rfl):PE X (.Call (.Name "max" p) (e::es) [] pos) (tCB rMax2 t):=
 pe_callB (call_max2 hc) hg T.b_max boot_max ha (by decide) (by decide) he hpl
end
theorem sc77:FnScope ["known","first","second"] ["known","first","second"] (defScope s_77):=⟨rfl,rfl,rfl,by decide +kernel,rfl,by decide +kernel,by decide +kernel⟩
theorem ok77 (F:Fun K "standing" "standing" s_77 f fd) (T:Txt K mg CT CS):FnOk P w K mg base CX0 1 f fd ["known","first","second"] spStanding:=by
 refine F.ok sc77 (fun vs H Q E h=>by obtain ⟨_,_,_,_,_,rfl,_⟩:=h;rfl) (fun cdv A outer s H vs Q E hr h=>?_)
 obtain ⟨d,n,R,a,b,rfl,h4,⟨⟨kvs,e,k1,k2⟩,t2⟩,ha,hb,q⟩:=h
 refine ⟨_,(pss_one (ps_ret (pe_dget2 (hu_of hr) (pv 0) (pe_tup (pa_cons (pe_op op_and (pv 1) (pe_un un_inv (pv 2))) (pa_cons (pe_op op_and (pv 2) (pe_un un_inv (pv 1))) pa_nil))) (pe_gi T.c_NOTHING) ⟨rfl,rfl,rfl,rfl⟩))),?_⟩
 walk_at "rd"
 refine ⟨.inr ⟨kvs,.inl e⟩,sml' (by decide),fun t nt=>?_⟩
 rw [and_not h4 ha hb,and_not h4 hb ha]
 refine ⟨_,DGet.t (k:=kk (less a b) (less b a)) (Same.new nt _ _ e) upd_same,?_⟩
 rw [k1]
 exact q _ (Same.new nt)
theorem sc78:FnScope ["known","first","second","level"] ["known","first","second","level"] (defScope s_78):=⟨rfl,rfl,rfl,by decide +kernel,rfl,by decide +kernel,by decide +kernel⟩
theorem ok78 (F:Fun K "take_down" "take_down" s_78 f fd) (T:Txt K mg CT CS) (c_77:Callee P w K mg base "standing" 1 ["known","first","second"] spStanding):FnOk P w K mg base CX0 2 f fd ["known","first","second","level"] spTakeDown:=by
 refine F.ok sc78 (fun vs H Q E h=>by obtain ⟨_,_,_,_,_,_,rfl,_⟩:=h;rfl) (fun cdv A outer s H vs Q E hr h=>?_)
 obtain ⟨d,n,R,a,b,lv,rfl,h1,h4,hk,ha,hb,hlv,q⟩:=h
 refine ⟨_,(pss_cons (ps_if (pt_cmpR op_le (pv 3) (pe_fn c_77 (rm hr) (pa_cons (pv 0) (pa_cons (pv 1) (pa_cons (pv 2) pa_nil)))) (nomark _)) (pss_one (ps_ret pe_bl)) pss_nil)
  (pss_cons (ps_dput (hu_of hr) (pv 0) (pe_tup (pa_cons (pe_op op_and (pv 1) (pe_un un_inv (pv 2))) (pa_cons (pe_op op_and (pv 2) (pe_un un_inv (pv 1))) pa_nil))) (pv 3) rfl)
  (pss_one (ps_ret pe_bl)))),?_⟩
 walk_at "rd"
 refine ⟨d,n,R,a,b,rfl,h4,hk,ha,hb,fun H1 s1=>?_⟩
 walk_at "rd"
 refine ite2 (fun hc=>?_) (fun hc=>?_)
 ·have hle:lv<=Rv R a b:=by omega
  have:=q H1 (s1.d d) (by rw [tdR_same hle];exact hk.mono s1)
  rw [decide_eq_false (by omega)] at this
  exact this
 ·have hlt:Rv R a b<lv:=by omega
  refine ⟨sml' (by decide),fun t nt=>?_⟩
  rw [and_not h4 ha hb,and_not h4 hb ha]
  have s2:Same H1 (upd H1 t (.tup [V.int (less a b:Nat),V.int (less b a:Nat)])):=Same.new nt
  obtain ⟨⟨kvs,e,k1,k2⟩,t2⟩:=hk.mono (s1.trans s2)
  refine ⟨_,DPut.t (k:=kk (less a b) (less b a)) e upd_same (sml (by omega)),?_⟩
  refine (show Q (.bl (decide (Rv R a b<lv))) _->Q (.bl true) _ from fun z=>by rw [decide_eq_true hlt] at z;exact z) (q _ (fun c o hc h=>by rw [upd_ne hc];exact s2 _ _ (s1 _ _ h)) ⟨⟨_,upd_same,fun u v=>?_,?_⟩,fun u v=>?_⟩)
  ·rw [valV_put]
   by_cases hkk:kk u v=kk (less a b) (less b a)
   ·obtain ⟨e1,e2⟩:=kk_inj hkk
    rw [if_pos hkk]
    have:=tdR_at R a b lv
    unfold Rv at this hlt
    rw [e1,e2,this,show max (R (less a b) (less b a)) lv=lv by omega]
    rfl
   ·rw [if_neg hkk,k1]
    unfold tdR
    rw [if_neg (fun z=>hkk (by rw [z.1,z.2]))]
  ·have:=length_putK kvs (kk (less a b) (less b a)) (V.int (lv:Int))
   have:=meas_td h1 h4 ha hb hlv hlt t2
   omega
  ·have:=t2 u v
   unfold tdR
   split <;> omega
theorem sc79:FnScope ["known","kind","first","second"] ["known","kind","first","second"] (defScope s_79):=⟨rfl,rfl,rfl,by decide +kernel,rfl,by decide +kernel,by decide +kernel⟩
theorem ok79 (F:Fun K "take_down_told" "take_down_told" s_79 f fd) (T:Txt K mg CT CS) (c_78:Callee P w K mg base "take_down" 2 ["known","first","second","level"] spTakeDown):FnOk P w K mg base CX0 3 f fd ["known","kind","first","second"] spTakeTold:=by
 refine F.ok sc79 (fun vs H Q E h=>by obtain ⟨_,_,_,_,rfl,_⟩:=h;rfl) (fun cdv A outer s H vs Q E hr h=>?_)
 obtain ⟨d,n,R,t,rfl,h1,h4,hk,ha,hb,q⟩:=h
 refine ⟨_,(pss_cons (ps_expr (pe_fn c_78 (rm hr) (pa_cons (pv 0) (pa_cons (pv 2) (pa_cons (pv 3) (pa_cons (pe_ifExp (pt_cmpR op_eq (pv 1) pe_int (nomark _)) (pe_gi T.c_IS_LIKELIER) (pe_gi T.c_NO_LESS_LIKELY)) pa_nil))))))
  (pss_one (ps_if (pt_cmpR op_eq (pv 1) pe_int (nomark _)) (pss_one (ps_expr (pe_fn c_78 (rm hr) (pa_cons (pv 0) (pa_cons (pv 3) (pa_cons (pv 2) (pa_cons (pe_gi T.c_NO_LESS_LIKELY) pa_nil))))))) pss_nil))),?_⟩
 walk_at "rd"
 refine ite2 (fun hc=>?_) (fun hc=>?_)
 ·have hc:t.kind=0:=by omega
  refine ⟨d,n,R,t.a,t.b,2,rfl,h1,h4,hk,ha,hb,by omega,fun H1 s1 k1=>?_⟩
  walk_at "rd"
  rw [if_neg (by omega)]
  refine q H1 s1 ?_
  unfold tdT
  rw [if_neg (by omega),if_pos hc]
  exact k1
 ·have hc:¬ t.kind=0:=by omega
  refine ⟨d,n,R,t.a,t.b,1,rfl,h1,h4,hk,ha,hb,by omega,fun H1 s1 k1=>?_⟩
  walk_at "rd"
  refine ite2 (fun h2=>?_) (fun h2=>?_)
  ·refine ⟨d,n,_,t.b,t.a,1,rfl,h1,h4,k1,hb,ha,by omega,fun H2 s2 k2=>?_⟩
   refine q H2 (s1.trans s2) ?_
   unfold tdT
   rw [if_pos (by omega)]
   exact k2
  ·refine q H1 s1 ?_
   unfold tdT
   rw [if_neg (by omega),if_neg hc]
   exact k1
theorem sc80:FnScope ["told","known","everything","chosen","kind","first","second"] ["told"] (defScope s_80):=⟨rfl,rfl,rfl,by decide +kernel,rfl,by decide +kernel,by decide +kernel⟩
theorem ok80 (F:Fun K "known_at_once" "known_at_once" s_80 f fd) (T:Txt K mg CT CS) (c_25:Callee P w K mg base "set_of_all" 1 ["size"] spSetOfAll) (c_78:Callee P w K mg base "take_down" 2 ["known","first","second","level"] spTakeDown) (c_79:Callee P w K mg base "take_down_told" 3 ["known","kind","first","second"] spTakeTold):FnOk P w K mg base CX0 4 f fd ["told"] (spKnown CT):=by
 refine F.ok sc80 (fun vs H Q E h=>by obtain ⟨_,_,_,rfl,_⟩:=h;rfl) (fun cdv A outer s H vs Q E hr h=>?_)
 obtain ⟨Z,a,b,rfl,ht,q⟩:=h
 refine ⟨_,(pss_cons (pS 1 sc80.nd pe_dnewT)
  (pss_cons (pS 2 sc80.nd (pe_fn c_25 (rm hr) (pa_cons (pe_worlds T (pv 0)) pa_nil)))
  (pss_cons (ps_for PassesOwn.never rfl (pi_range1 rfl T.b_range (pa_cons (pe_op op_add (pv 2) pe_int) pa_nil)) (pN 3 sc80.nd)
   (pss_one (ps_expr (pe_fn c_78 (rm hr) (pa_cons (pv 1) (pa_cons (pv 3) (pa_cons pe_int (pa_cons (pe_gi T.c_NO_LESS_LIKELY) pa_nil))))))))
  (pss_cons (ps_expr (pe_fn c_78 (rm hr) (pa_cons (pv 1) (pa_cons (pv 2) (pa_cons pe_int (pa_cons (pe_gi T.c_IS_LIKELIER) pa_nil))))))
  (pss_cons (ps_for PassesOwn.never rfl (pi_list (pe_likelier T (pv 0))) (pg_tup (n:=3) rfl (pgs_cons (pN 4 sc80.nd) (pgs_cons (pN 5 sc80.nd) (pgs_cons (pN 6 sc80.nd) pgs_nil))))
   (pss_one (ps_expr (pe_fn c_79 (rm hr) (pa_cons (pv 1) (pa_cons (pv 4) (pa_cons (pv 5) (pa_cons (pv 6) pa_nil))))))))
  (pss_one (ps_ret (pv 1)))))))),?_⟩
 walk_at "rd"
 have ok:=ht.ok
 have h1:=ok.n1
 have h4:=ok.n4
 have hp:0<2 ^ b.n:=Nat.pow_pos (by decide)
 have h16:2 ^ b.n<=16:=Nat.le_trans (Nat.pow_le_pow_right (by decide) h4) (by decide)
 refine fun d nd=>⟨Z,b,ht.mono (Same.new nd),b.n,rfl,by omega,?_⟩
 walk_at "rd"
 rw [show ((2 ^ b.n - 1:Nat):Int)+1=((2 ^ b.n:Nat):Int) by omega]
 refine ⟨by omega,by omega,?_⟩
 obtain ⟨Pv,hPv⟩:∃ Pv:Nat->L2.St->Hp->Prop,∀ i σ H',Pv i σ H' ↔ (Same H H'/\KnAt b.n H' d (R1 i)/\∃ (o3 o4 o5 o6:Option V),σ=[some (.ref a),some (.ref d),some (.int ((2 ^ b.n - 1:Nat):Int)),o3,o4,o5,o6]):=⟨_,fun _ _ _=>Iff.rfl⟩
 refine loop_of (yl_range (H1:=H) 0 _) Pv (fun i σ H' h=>((hPv _ _ _).mp h).1) ((hPv _ _ _).mpr ⟨Same.new nd,⟨⟨[],upd_same,fun u v=>rfl,?_⟩,fun u v=>Nat.zero_le _⟩,none,none,none,none,rfl⟩) (fun i σ H' H2 h s=>by
  obtain ⟨h1,h2,h3⟩:=(hPv _ _ _).mp h
  exact (hPv _ _ _).mpr ⟨h1.trans s,h2.mono s,h3⟩) ?_ ?_
 ·have:=meas_le b.n (R1 0)
  have:2 * 2 ^ b.n * 2 ^ b.n<=512:=by
   have:=Nat.mul_le_mul (Nat.mul_le_mul_left 2 h16) h16
   omega
  simp only [List.length_nil]
  omega
 ·intro i σ H' v hi h y
  obtain ⟨s1,k1,o3,o4,o5,o6,rfl⟩:=(hPv _ _ _).mp h
  subst y
  rw [Int.zero_add]
  walk_at "rd"
  refine ⟨d,b.n,_,i,0,1,rfl,h1,h4,k1,by omega,hp,by omega,fun H2 s2 k2=>?_⟩
  refine (hPv _ _ _).mpr ⟨s2.same s1 nd,by rw [R1_succ];exact k2,_,_,_,_,rfl⟩
 ·intro σ H' h
  obtain ⟨s1,k1,o3,o4,o5,o6,rfl⟩:=(hPv _ _ _).mp h
  walk_at "rd"
  rw [Int.toNat_natCast] at k1
  refine ⟨d,b.n,_,2 ^ b.n - 1,0,2,rfl,h1,h4,k1,by omega,hp,by omega,fun H2 s2 k2=>?_⟩
  walk_at "rd"
  have t2:Same H H2:=s2.same s1 nd
  refine ⟨Z,b,H,ht,t2,fun l hl=>?_⟩
  obtain ⟨z,as,e1,pr⟩:=hl
  have hlen:as.length=b.worlds.told.length:=by rw [Paired_len pr];unfold likes;simp
  obtain ⟨Pw,hPw⟩:∃ Pw:Nat->L2.St->Hp->Prop,∀ i σ H',Pw i σ H' ↔ (Same H H'/\KnAt b.n H' d (R3 b.n (b.worlds.told.take i))/\∃ (o3 o4 o5 o6:Option V),σ=[some (.ref a),some (.ref d),some (.int ((2 ^ b.n - 1:Nat):Int)),o3,o4,o5,o6]):=⟨_,fun _ _ _=>Iff.rfl⟩
  refine ⟨⟨_,SqL.of (t2 _ _ e1)⟩,loop_of (yl_list (K:=K) (SqL.of e1)) Pw (fun i σ H' h=>((hPw _ _ _).mp h).1) ((hPw _ _ _).mpr ⟨t2,k2,_,_,_,_,rfl⟩) (fun i σ H' H2 h s=>by
   obtain ⟨h1,h2,h3⟩:=(hPw _ _ _).mp h
   exact (hPw _ _ _).mpr ⟨h1.trans s,h2.mono s,h3⟩) ?_ ?_⟩
  ·intro i σ H3 v hi h y
   obtain ⟨s3,k3,o3,o4,o5,o6,rfl⟩:=(hPw _ _ _).mp h
   have hi:i<b.worlds.told.length:=by rw [List.length_map,hlen] at hi;exact hi
   have hr:(likes b)[i]?=some ((b.worlds.told[i]).kind,(b.worlds.told[i]).a,(b.worlds.told[i]).b):=by unfold likes;rw [List.getElem?_map,List.getElem?_eq_getElem hi];rfl
   obtain ⟨ta,g1,g2,g3⟩:=Paired_get pr hr
   have ev:v=.ref ta:=by rw [List.getElem?_map,g1] at y;exact (Option.some.inj y).symm
   subst ev
   obtain ⟨c1,c2,c3⟩:=ok.lk _ (List.getElem_mem hi)
   refine gtup_of (s3 _ _ g3) rfl ?_
   unfold trv
   walk_at "rd"
   refine ⟨d,b.n,_,b.worlds.told[i],rfl,h1,h4,k3,c2,c3,fun H4 s4 k4=>?_⟩
   refine (hPw _ _ _).mpr ⟨s4.same s3 nd,?_,_,_,_,_,rfl⟩
   rw [take_snoc (List.getElem?_eq_getElem hi),R3_snoc]
   exact k4
  ·intro σ H3 h
   obtain ⟨s3,k3,o3,o4,o5,o6,rfl⟩:=(hPw _ _ _).mp h
   walk_at "rd"
   rw [List.length_map,hlen,List.take_length] at k3
   exact q d H3 nd s3 k3
theorem sc81:FnScope ["known","sets","first","second","ahead","news","third","behind"] ["known","sets","first","second"] (defScope s_81):=⟨rfl,rfl,rfl,by decide +kernel,rfl,by decide +kernel,by decide +kernel⟩
theorem ok81 (F:Fun K "go_on_from" "go_on_from" s_81 f fd) (T:Txt K mg CT CS) (c_77:Callee P w K mg base "standing" 1 ["known","first","second"] spStanding) (c_78:Callee P w K mg base "take_down" 2 ["known","first","second","level"] spTakeDown):FnOk P w K mg base CX0 3 f fd ["known","sets","first","second"] spGoOn:=by
 refine F.ok sc81 (fun vs H Q E h=>by obtain ⟨_,_,_,_,_,_,rfl,_⟩:=h;rfl) (fun cdv A outer s H vs Q E hr h=>?_)
 obtain ⟨d,n,l,R,a,b,rfl,h1,h4,hk,kok,ha,hb,q⟩:=h
 refine ⟨_,(pss_cons (pS 4 sc81.nd (pe_fn c_77 (rm hr) (pa_cons (pv 0) (pa_cons (pv 2) (pa_cons (pv 3) pa_nil)))))
  (pss_cons (ps_if (pt_cmpR op_eq (pv 4) (pe_gi T.c_NOTHING) (nomark _)) (pss_one (ps_ret pe_bl)) pss_nil)
  (pss_cons (pS 5 sc81.nd pe_bl)
  (pss_cons (ps_for PassesOwn.never rfl (pi_range1 rfl T.b_range (pa_cons (pv 1) pa_nil)) (pN 6 sc81.nd)
   (pss_cons (pS 7 sc81.nd (pe_fn c_77 (rm hr) (pa_cons (pv 0) (pa_cons (pv 3) (pa_cons (pv 6) pa_nil)))))
  (pss_one (ps_if (PW.pt (pw_and (pt_cmpR op_ne (pv 7) (pe_gi T.c_NOTHING) (nomark _)) (pw_and1 (pt_val (pe_fn c_78 (rm hr) (pa_cons (pv 0) (pa_cons (pv 2) (pa_cons (pv 6) (pa_cons (pe_max2 T (pa_cons (pv 4) (pa_cons (pv 7) pa_nil))) pa_nil))))))))) (pss_one (pS 5 sc81.nd pe_bl)) pss_nil))))
  (pss_one (ps_ret (pv 5))))))),?_⟩
 walk_at "rd"
 have h16:2 ^ n<=16:=Nat.le_trans (Nat.pow_le_pow_right (by decide) h4) (by decide)
 refine ⟨d,n,R,a,b,rfl,h4,hk,ha,hb,fun H1 s1=>?_⟩
 walk_at "rd"
 refine ite2 (fun hc=>?_) (fun hc=>?_)
 ·refine q R false H1 (s1.d d) (hk.mono s1) ⟨fun u v=>Nat.le_refl _,kok,fun _=>⟨rfl,fun z=>absurd (by omega) z⟩,fun z=>by cases z⟩
 ·have hne:Rv R a b ≠ 0:=by omega
  refine ⟨by omega,by omega,?_⟩
  obtain ⟨Pv,hPv⟩:∃ Pv:Nat->L2.St->Hp->Prop,∀ i σ H',Pv i σ H' ↔ (SameD d H H'/\∃ (R':KR) (news:Bool) (o6 o7:Option V),σ=[some (.ref d),some (.int ((2 ^ n:Nat):Int)),some (.int (a:Int)),some (.int (b:Int)),some (.int (Rv R a b:Nat)),some (.bl news),o6,o7]/\KnAt n H' d R'/\Goes n l R R' news (∀ c,c<i->Rv R b c ≠ 0->max (Rv R a b) (Rv R b c)<=Rv R a c)):=⟨_,fun _ _ _=>Iff.rfl⟩
  refine loop_of (yl_range (H1:=fun _=>none) 0 _) Pv (fun i σ H' h=>fun b o e=>by cases e) ((hPv _ _ _).mpr ⟨s1.d d,R,false,none,none,rfl,hk.mono s1,⟨fun u v=>Nat.le_refl _,kok,fun _=>⟨rfl,fun c hc=>by omega⟩,fun z=>by cases z⟩⟩) (fun i σ H' H2 h s=>by
   obtain ⟨h1,R',news,o6,o7,h2,h3,h4⟩:=(hPv _ _ _).mp h
   exact (hPv _ _ _).mpr ⟨h1.trans (s.d d),R',news,o6,o7,h2,h3.mono s,h4⟩) ?_ ?_
  ·intro i σ H2 v hi h y
   obtain ⟨s2,R',news,o6,o7,rfl,k2,g2⟩:=(hPv _ _ _).mp h
   subst y
   rw [Int.zero_add]
   have hi:i<2 ^ n:=by omega
   walk_at "rd"
   refine ⟨d,n,R',b,i,rfl,h4,k2,hb,hi,fun H3 s3=>?_⟩
   walk_at "rd"
   have k3:=k2.mono s3
   have skip:∀ o6 o7:Option V,(Rv R' b i ≠ 0->max (Rv R a b) (Rv R' b i)<=Rv R' a i)->∀ H4,SameD d H H4->KnAt n H4 d R'->Pv (i+1) [some (.ref d),some (.int ((2 ^ n:Nat):Int)),some (.int (a:Int)),some (.int (b:Int)),some (.int (Rv R a b:Nat)),some (.bl news),o6,o7] H4:=by
    intro o6 o7 hz H4 s4 k4
    refine (hPv _ _ _).mpr ⟨s4,R',news,o6,o7,rfl,k4,g2.up,g2.ok,fun z=>?_,g2.yes⟩
    obtain ⟨e1,e2⟩:=g2.no z
    refine ⟨e1,fun c hc hc2=>?_⟩
    by_cases e:c=i
    ·subst e
     rw [e1] at hz
     exact hz hc2
    ·exact e2 c (by omega) hc2
   by_cases hz:Rv R' b i=0
   ·rw [if_neg (by omega)]
    exact skip _ _ (fun z=>absurd hz z) H3 (s2.trans (s3.d d)) k3
   ·rw [if_pos (by omega)]
    have two:=k3.two
    have ab2:Rv R a b<=2:=kok.two _ _
    have bi2:Rv R' b i<=2:=k3.two _ _
    have em:(if ((Rv R' b i:Nat):Int) > ((Rv R a b:Nat):Int) then ((Rv R' b i:Nat):Int) else ((Rv R a b:Nat):Int))=((max (Rv R a b) (Rv R' b i):Nat):Int):=by
     split <;> omega
    unfold rMax2
    refine ⟨_,_,rfl,?_⟩
    rw [em]
    refine ⟨d,n,R',a,i,max (Rv R a b) (Rv R' b i),rfl,h1,h4,k3,ha,hi,by omega,fun H4 s4 k4=>?_⟩
    walk_at "rd"
    have hlow:∀ C,Cl n l C->max (Rv R a b) (Rv R' b i)<=C a i:=fun C hC=>by
     have l1:=kok.low C hC a ha b hb
     have l2:=g2.ok.low C hC b hb i hi
     have:=hC.tr a ha b hb i hi (by omega) (by omega)
     omega
    by_cases hlt:Rv R' a i<max (Rv R a b) (Rv R' b i)
    ·rw [if_pos (by simpa using hlt)]
     refine (hPv _ _ _).mpr ⟨(s2.trans (s3.d d)).trans s4,_,true,_,_,rfl,k4,fun u v=>Nat.le_trans (g2.up u v) (tdR_up _ _ _ _ _ _),g2.ok.td h1 h4 ha hi (by omega) hlow,fun z=>(by cases z),fun _=>?_⟩
     have m1:=meas_td h1 h4 ha hi (show max (Rv R a b) (Rv R' b i)<=2 by omega) hlt two
     cases hn:news with
     | true=>have:=g2.yes hn;omega
     | false=>have:=(g2.no hn).1;rw [this] at m1;rw [this];exact m1
    ·rw [if_neg (by simpa using hlt)]
     refine skip _ _ (fun _=>by omega) H4 ((s2.trans (s3.d d)).trans s4) ?_
     rw [tdR_same (by omega)] at k4
     exact k4
  ·intro σ H2 h
   obtain ⟨s2,R',news,o6,o7,rfl,k2,g2⟩:=(hPv _ _ _).mp h
   walk_at "rd"
   rw [Int.toNat_natCast] at g2
   exact q R' news H2 s2 k2 ⟨g2.up,g2.ok,fun z=>⟨(g2.no z).1,fun _=>(g2.no z).2⟩,g2.yes⟩
theorem sc82:FnScope ["known","sets","news","first","second"] ["known","sets"] (defScope s_82):=⟨rfl,rfl,rfl,by decide +kernel,rfl,by decide +kernel,by decide +kernel⟩
theorem ok82 (F:Fun K "go_on_from_all" "go_on_from_all" s_82 f fd) (T:Txt K mg CT CS) (c_81:Callee P w K mg base "go_on_from" 3 ["known","sets","first","second"] spGoOn):FnOk P w K mg base CX0 4 f fd ["known","sets"] spGoAll:=by
 refine F.ok sc82 (fun vs H Q E h=>by obtain ⟨_,_,_,_,rfl,_⟩:=h;rfl) (fun cdv A outer s H vs Q E hr h=>?_)
 obtain ⟨d,n,l,R,rfl,h1,h4,hk,kok,q⟩:=h
 refine ⟨_,(pss_cons (pS 2 sc82.nd pe_bl)
  (pss_cons (ps_for PassesOwn.never rfl (pi_range1 rfl T.b_range (pa_cons (pv 1) pa_nil)) (pN 3 sc82.nd)
   (pss_one (ps_for PassesOwn.never rfl (pi_range1 rfl T.b_range (pa_cons (pv 1) pa_nil)) (pN 4 sc82.nd)
   (pss_one (ps_if (pt_val (pe_fn c_81 (rm hr) (pa_cons (pv 0) (pa_cons (pv 1) (pa_cons (pv 3) (pa_cons (pv 4) pa_nil)))))) (pss_one (pS 2 sc82.nd pe_bl)) pss_nil)))))
  (pss_one (ps_ret (pv 2))))),?_⟩
 have h16:2 ^ n<=16:=Nat.le_trans (Nat.pow_le_pow_right (by decide) h4) (by decide)
 walk_at "rd"
 generalize hN:2 ^ n=N at *
 refine ⟨by omega,by omega,?_⟩
 subst hN
 obtain ⟨Pv,hPv⟩:∃ Pv:Nat->L2.St->Hp->Prop,∀ i σ H',Pv i σ H' ↔ (SameD d H H'/\∃ (R':KR) (news:Bool) (o3 o4:Option V),σ=[some (.ref d),some (.int ((2 ^ n:Nat):Int)),some (.bl news),o3,o4]/\KnAt n H' d R'/\Goes n l R R' news (∀ a,a<i->∀ b,b<2 ^ n->onw n R a b (2 ^ n))):=⟨_,fun _ _ _=>Iff.rfl⟩
 refine loop_of (yl_range (H1:=fun _=>none) 0 _) Pv (fun i σ H' h=>fun b o e=>by cases e) ((hPv _ _ _).mpr ⟨(Same.refl _).d d,R,false,none,none,rfl,hk,⟨fun u v=>Nat.le_refl _,kok,fun _=>⟨rfl,fun c hc=>by omega⟩,fun z=>by cases z⟩⟩) (fun i σ H' H2 h s=>by
  obtain ⟨h1,R',news,o6,o7,h2,h3,h4⟩:=(hPv _ _ _).mp h
  exact (hPv _ _ _).mpr ⟨h1.trans (s.d d),R',news,o6,o7,h2,h3.mono s,h4⟩) ?_ ?_
 ·intro i σ H2 v hi h y
  obtain ⟨s2,R',news,o3,o4,rfl,k2,g2⟩:=(hPv _ _ _).mp h
  subst y
  rw [Int.zero_add]
  have hi:i<2 ^ n:=by omega
  walk_at "rd"
  refine ⟨by omega,by omega,?_⟩
  obtain ⟨Pw,hPw⟩:∃ Pw:Nat->L2.St->Hp->Prop,∀ j σ H',Pw j σ H' ↔ (SameD d H H'/\∃ (R':KR) (news:Bool) (o4:Option V),σ=[some (.ref d),some (.int ((2 ^ n:Nat):Int)),some (.bl news),some (.int (i:Int)),o4]/\KnAt n H' d R'/\Goes n l R R' news ((∀ a,a<i->∀ b,b<2 ^ n->onw n R a b (2 ^ n))/\∀ b,b<j->onw n R i b (2 ^ n))):=⟨_,fun _ _ _=>Iff.rfl⟩
  refine loop_of (yl_range (H1:=fun _=>none) 0 _) Pw (fun i σ H' h=>fun b o e=>by cases e) ((hPw _ _ _).mpr ⟨s2,R',news,o4,rfl,k2,⟨g2.up,g2.ok,fun z=>⟨(g2.no z).1,(g2.no z).2,fun b hb=>by omega⟩,g2.yes⟩⟩) (fun i σ H' H2 h s=>by
   obtain ⟨h1,R',news,o7,h2,h3,h4⟩:=(hPw _ _ _).mp h
   exact (hPw _ _ _).mpr ⟨h1.trans (s.d d),R',news,o7,h2,h3.mono s,h4⟩) ?_ ?_
  ·intro j σ H3 v hj h y
   obtain ⟨s3,R3',news,o4,rfl,k3,g3⟩:=(hPw _ _ _).mp h
   subst y
   rw [Int.zero_add]
   have hj:j<2 ^ n:=by omega
   walk_at "rd"
   refine ⟨d,n,l,R3',i,j,rfl,h1,h4,k3,g3.ok,hi,hj,fun R4 nw H4 s4 k4 g4=>?_⟩
   walk_at "rd"
   cases nw with
   | true=>
    rw [if_pos rfl]
    refine (hPw _ _ _).mpr ⟨s3.trans s4,R4,true,_,rfl,k4,fun u v=>Nat.le_trans (g3.up u v) (g4.up u v),g4.ok,fun z=>(by cases z),fun _=>?_⟩
    have m4:=g4.yes rfl
    cases hn:news with
    | true=>have:=g3.yes hn;omega
    | false=>have:=(g3.no hn).1;rw [this] at m4;exact m4
   | false=>
    rw [if_neg (by simp)]
    obtain ⟨e1,e2⟩:=g4.no rfl
    refine (hPw _ _ _).mpr ⟨s3.trans s4,R4,news,_,rfl,k4,fun u v=>Nat.le_trans (g3.up u v) (g4.up u v),g4.ok,fun z=>?_,fun z=>by rw [e1];exact g3.yes z⟩
    obtain ⟨e3,e4,e5⟩:=g3.no z
    refine ⟨by rw [e1,e3],e4,fun b hb=>?_⟩
    by_cases e:b=j
    ·subst e
     rw [e3] at e2
     exact e2
    ·exact e5 b (by omega)
  ·intro σ H3 h
   obtain ⟨s3,R3',news,o4,rfl,k3,g3⟩:=(hPw _ _ _).mp h
   rw [Int.toNat_natCast] at g3
   refine (hPv _ _ _).mpr ⟨s3,R3',news,_,_,rfl,k3,g3.up,g3.ok,fun z=>?_,g3.yes⟩
   obtain ⟨e3,e4,e5⟩:=g3.no z
   refine ⟨e3,fun a ha b hb=>?_⟩
   by_cases e:a=i
   ·subst e;exact e5 b hb
   ·exact e4 a (by omega) b hb
 ·intro σ H2 h
  obtain ⟨s2,R',news,o3,o4,rfl,k2,g2⟩:=(hPv _ _ _).mp h
  walk_at "rd"
  rw [Int.toNat_natCast] at g2
  exact q R' news H2 s2 k2 g2
theorem sc83:FnScope ["told","first","second","known","news"] ["told","first","second"] (defScope s_83):=⟨rfl,rfl,rfl,by decide +kernel,rfl,by decide +kernel,by decide +kernel⟩
theorem ok83 (F:Fun K "by_rules" "by_rules" s_83 f fd) (T:Txt K mg CT CS) (c_80:Callee P w K mg base "known_at_once" 4 ["told"] (spKnown CT)) (c_82:Callee P w K mg base "go_on_from_all" 4 ["known","sets"] spGoAll) (c_25:Callee P w K mg base "set_of_all" 1 ["size"] spSetOfAll) (c_77:Callee P w K mg base "standing" 1 ["known","first","second"] spStanding):FnOk P w K mg base CX0 5 f fd ["told","first","second"] (spByRules CT):=by
 refine F.ok sc83 (fun vs H Q E h=>by obtain ⟨_,_,_,_,_,rfl,_⟩:=h;rfl) (fun cdv A outer s H vs Q E hr h=>?_)
 obtain ⟨Z,a,b,u,v,rfl,ht,hu,hv,q⟩:=h
 refine ⟨_,(pss_cons (pS 3 sc83.nd (pe_fn c_80 (rm hr) (pa_cons (pv 0) pa_nil)))
  (pss_cons (pS 4 sc83.nd pe_bl)
  (pss_cons (ps_while PassesOwn.never (pt_val (pv 4))
   (pss_one (pS 4 sc83.nd (pe_fn c_82 (rm hr) (pa_cons (pv 3) (pa_cons (pe_op op_add (pe_fn c_25 (rm hr) (pa_cons (pe_worlds T (pv 0)) pa_nil)) pe_int) pa_nil))))))
  (pss_one (ps_ret (pe_fn c_77 (rm hr) (pa_cons (pv 3) (pa_cons (pv 1) (pa_cons (pv 2) pa_nil))))))))),?_⟩
 walk_at "rd"
 have ok:=ht.ok
 have h1:=ok.n1
 have h4:=ok.n4
 have hp:0<2 ^ b.n:=Nat.pow_pos (by decide)
 have hl:∀ t ∈ b.worlds.told,t.a<2 ^ b.n/\t.b<2 ^ b.n:=fun t h=>(ok.lk t h).2
 refine ⟨Z,a,b,rfl,ht,fun d H1 nd s1 k1=>?_⟩
 walk_at "rd"
 obtain ⟨Pw,hPw⟩:∃ Pw:Nat->L2.St->Hp->Prop,∀ m σ H',Pw m σ H' ↔ (Same H H'/\∃ (R':KR) (news:Bool),σ=[some (.ref a),some (.int (u:Int)),some (.int (v:Int)),some (.ref d),some (.bl news)]/\KnAt b.n H' d R'/\Kok b.n b.worlds.told R'/\(∀ x y,R3 b.n b.worlds.told x y<=R' x y)/\m=(if news then meas b.n R'+1 else 0)/\(news=false->∀ x,x<2 ^ b.n->∀ y,y<2 ^ b.n->onw b.n R' x y (2 ^ b.n))):=⟨_,fun _ _ _=>Iff.rfl⟩
 refine ⟨Pw,⟨_,(hPw _ _ _).mpr ⟨s1,_,true,rfl,k1,kok_R3 h1 h4 hl,fun x y=>Nat.le_refl _,rfl,fun z=>by cases z⟩⟩,fun m σ H' h=>?_⟩
 obtain ⟨s2,R',news,rfl,k2,kok,up,hm,hno⟩:=(hPw _ _ _).mp h
 walk_at "rd"
 cases news with
 | true=>
  rw [if_pos rfl]
  refine ⟨fun σ' H''=>∃ m',m'<m/\Pw m' σ' H'',fun σ' H'' h=>h,Z,b,ht.mono s2,b.n,rfl,by omega,?_⟩
  walk_at "rd"
  rw [show ((2 ^ b.n - 1:Nat):Int)+1=((2 ^ b.n:Nat):Int) by omega]
  refine ⟨d,b.n,b.worlds.told,R',rfl,h1,h4,k2,kok,fun R4 nw H4 s4 k4 g4=>?_⟩
  walk_at "rd"
  refine ⟨if nw then meas b.n R4+1 else 0,?_,(hPw _ _ _).mpr ⟨s4.same s2 nd,R4,nw,rfl,k4,g4.ok,fun x y=>Nat.le_trans (up x y) (g4.up x y),rfl,fun z=>?_⟩⟩
  ·simp only [if_true] at hm
   rw [hm]
   cases nw with
   | true=>have:=g4.yes rfl;simp only [if_true];omega
   | false=>simp
  ·obtain ⟨e1,e2⟩:=g4.no z
   rw [e1]
   exact e2
 | false=>
  rw [if_neg (by simp)]
  refine ⟨d,b.n,R',u,v,rfl,h4,k2,hu,hv,fun H5 s5=>?_⟩
  walk_at "rd"
  have e9:Krae.own b.n b.worlds.rel u v=Rv R' u v:=rules_end (l:=b.worlds.told) h1 h4 kok up (fun x hx y hy hne c hc hc2=>hno rfl x hx y hy hne c hc hc2) hu hv
  have:=q H5 (s2.trans s5)
  rw [e9] at this
  exact this
end
section
open KragNeutral (told)
def callOf (c:Nat) (g:List Nat):Krag.Call:=match c with
 | 0=>.begin_ (g.getD 0 0) (g.getD 1 0)
 | 1=>.likelier (g.getD 0 0) (g.getD 1 0) (g.getD 2 0)
 | 2=>.unlikelier (g.getD 0 0)
 | 3=>.lot g
 | 4=>.unlot (g.getD 0 0)
 | 5=>.prize (g.getD 0 0) (g.getD 1 0) (g.getD 2 0)
 | 6=>.rather (g.getD 0 0) (g.getD 1 0) (g.getD 2 0)
 | 7=>.unrather (g.getD 0 0)
 | 8=>.back
 | 9=>.again
 | 10=>.chances
 | 11=>.ways
 | 12=>.least
 | 13=>.fits g
 | 14=>.worth (g.getD 0 0)
 | 15=>.more (g.getD 0 0) (g.getD 1 0)
 | 16=>.may (g.getD 0 0) (g.getD 1 0) (g.getD 2 0)
 | 17=>.inEach (g.getD 0 0) (g.getD 1 0)
 | 18=>.best
 | 19=>.maybest
 | 20=>.prizes (g.getD 0 0) (g.getD 1 0)
 | 21=>.learn (g.getD 0 0)
 | 22=>.learnAll
 | 23=>.clashes
 | 24=>.spare
 | 25=>.wrong g
 | 26=>.side (g.getD 0 0)
 | 27=>.rules (g.getD 0 0) (g.getD 1 0)
 | 28=>.look (g.getD 0 0)
 | 29=>.told (g.getD 0 0)
 | _=>.state
def askB (b:Krag.Book) (c:Nat) (g:List Nat):List Int:=told ((⟨b,[],[]⟩:Krag.World).does (callOf c g)).2
def GOk (c:Nat) (g:List Nat):Prop:=g.length<=255/\(hasRow (c:Int)=false->g.length=counts.getD c 0)
def lotsG (c:Nat) (g:List Nat):List Nat:=if c=14\/c=15\/c=17\/c=26 then g else if c=16 then g.drop 1 else []
def thereB (b:Krag.Book) (c:Nat) (g:List Nat):Bool:=if c=20 then g.all fun p=>decide (p<b.prizes) else (lotsG c g).all fun p=>decide (p<b.lots.length)
def rightB (b:Krag.Book) (c:Nat) (g:List Nat):Bool:=if c=13\/c=25 then numbersB b.prizes g else if c=16 then decide (g.getD 0 0<=2) else (!decide (c=21)) || decide (g.getD 0 0<2 ^ b.n)
def refR (b:Krag.Book) (c:Nat) (g:List Nat):Option Int:=if thereB b c g=false then some (-2) else if rightB b c g=false then some (-22) else if (c=21\/c=22)/\b.lots.length=0 then some (-6) else none
theorem len0 {l:List Nat} (h:l.length=0):l=[]:=List.length_eq_zero_iff.mp h
theorem len1 {l:List Nat} (h:l.length=1):∃ a,l=[a]:=List.length_eq_one_iff.mp h
theorem len2 {l:List Nat} (h:l.length=2):∃ a b,l=[a,b]:=by
 match l,h with
 | [a,b],_=>exact ⟨a,b,rfl⟩
theorem len3 {l:List Nat} (h:l.length=3):∃ a b c,l=[a,b,c]:=by
 match l,h with
 | [a,b,c],_=>exact ⟨a,b,c,rfl⟩
section
variable {b:Krag.Book} {x:List Nat}
def lnum (b:Krag.Book) (l:Nat):Bool:=decide (b.lots.length<=l)
def chanceA (b:Krag.Book) (f:List Nat->List Int):List Int:=match b.shares with
 | none=>[-61]
 | some x=>f x
def allA (b:Krag.Book) (f:List Nat->List (List Nat)->List Int):List Int:=match b.shares with
 | none=>[-61]
 | some x=>match b.fit with
  | []=>[-33]
  | y::r=>f x (y::r)
theorem chance_told (f:List Nat->Krag.Ans):told (match b.shares with | none=>Krag.say (-61) | some x=>f x)=chanceA b fun x=>told (f x):=by
 unfold chanceA
 cases b.shares <;> rfl
theorem all_told (f:List Nat->List (List Nat)->Krag.Ans):told (match b.shares with | none=>Krag.say (-61) | some x=>match b.fit with | []=>Krag.say (-33) | _::_=>f x b.fit)=allA b fun x l=>told (f x l):=by
 unfold allA
 cases b.shares with
 | none=>rfl
 | some x=>
  cases h:b.fit <;> simp [h] <;> rfl
end
theorem a10 (b:Krag.Book) (g:List Nat):askB b 10 g=chanceA b fun x=>told ({ num:=Krae.total x,nums:=Krag.ints x }):=by
 exact chance_told (b:=b) (fun x=>{ num:=Krae.total x,nums:=Krag.ints x })
theorem a11 (b:Krag.Book) (g:List Nat):askB b 11 g=chanceA b fun _=>told (Krag.say b.fit.length):=by
 exact chance_told (b:=b) (fun _=>Krag.say b.fit.length)
theorem a12 (b:Krag.Book) (g:List Nat):askB b 12 g=allA b fun _ l=>told (match Krab.least l with
   | none=>Krag.say (-33)
   | some z=>{ num:=Krab.total z,nums:=Krag.ints z }):=by
 exact all_told (b:=b) (fun _ l=>match Krab.least l with
   | none=>Krag.say (-33)
   | some z=>{ num:=Krab.total z,nums:=Krag.ints z })
theorem a13 (b:Krag.Book) (g:List Nat):askB b 13 g=if numbersB b.prizes g=false then [-22] else chanceA b fun y=>told (Krag.say (if (b.told y).all fun t=>t.holds g then 1 else 0)):=by
 by_cases h:numbersB b.prizes g=false
 ·rw [if_pos h]
  show told (if numbersB b.prizes g=false then Krag.say (-22) else _)=_
  rw [if_pos h]
  rfl
 rw [if_neg h]
 show told (if numbersB b.prizes g=false then _ else _)=_
 rw [if_neg h]
 exact chance_told (b:=b) (fun y=>Krag.say (if (b.told y).all fun t=>t.holds g then 1 else 0))
theorem a14 (b:Krag.Book) (l:Nat):askB b 14 [l]=if decide (b.lots.length<=l)=true then [-2] else allA b fun x f=>told ({ num:=0,nums:=Krag.fraction (minS (f.map fun z=>Krag.worth b x z (b.lot l))) (Krae.total x)++Krag.fraction (maxS (f.map fun z=>Krag.worth b x z (b.lot l))) (Krae.total x) }):=by
 by_cases h:decide (b.lots.length<=l)=true
 ·rw [if_pos h]
  show told (if decide (b.lots.length<=l)=true then Krag.say (-2) else _)=_
  rw [if_pos h]
  rfl
 rw [if_neg h]
 show told (if decide (b.lots.length<=l)=true then _ else _)=_
 rw [if_neg h]
 exact all_told (b:=b) (fun x f=>{ num:=0,nums:=Krag.fraction (minS (f.map fun z=>Krag.worth b x z (b.lot l))) (Krae.total x)++Krag.fraction (maxS (f.map fun z=>Krag.worth b x z (b.lot l))) (Krae.total x) })
theorem a15 (b:Krag.Book) (x y:Nat):askB b 15 [x,y]=if (decide (b.lots.length<=x) || decide (b.lots.length<=y))=true then [-2] else allA b fun s f=>told (Krag.say (Krag.byAll f (Krag.sideOf b.prizes s (b.lot x)) (Krag.sideOf b.prizes s (b.lot y)))):=by
 by_cases h:(decide (b.lots.length<=x) || decide (b.lots.length<=y))=true
 ·rw [if_pos h]
  show told (if (decide (b.lots.length<=x) || decide (b.lots.length<=y))=true then Krag.say (-2) else _)=_
  rw [if_pos h]
  rfl
 rw [if_neg h]
 show told (if (decide (b.lots.length<=x) || decide (b.lots.length<=y))=true then _ else _)=_
 rw [if_neg h]
 exact all_told (b:=b) (fun s f=>Krag.say (Krag.byAll f (Krag.sideOf b.prizes s (b.lot x)) (Krag.sideOf b.prizes s (b.lot y))))
theorem a16 (b:Krag.Book) (k x y:Nat):askB b 16 [k,x,y]=if (decide (b.lots.length<=x) || decide (b.lots.length<=y))=true then [-2] else if 2<k then [-22] else allA b fun s f=>told (Krag.say (if f.any fun z=>(⟨Krag.sideOf b.prizes s (b.lot x),Krag.sideOf b.prizes s (b.lot y),k⟩:Krab.Told).holds z then 1 else 0)):=by
 by_cases h:(decide (b.lots.length<=x) || decide (b.lots.length<=y))=true
 ·rw [if_pos h]
  show told (if (decide (b.lots.length<=x) || decide (b.lots.length<=y))=true then Krag.say (-2) else _)=_
  rw [if_pos h]
  rfl
 rw [if_neg h]
 show told (if (decide (b.lots.length<=x) || decide (b.lots.length<=y))=true then _ else _)=_
 rw [if_neg h]
 clear h
 by_cases h:2<k
 ·rw [if_pos h]
  show told (if 2<k then Krag.say (-22) else _)=_
  rw [if_pos h]
  rfl
 rw [if_neg h]
 show told (if 2<k then _ else _)=_
 rw [if_neg h]
 exact all_told (b:=b) (fun s f=>Krag.say (if f.any fun z=>(⟨Krag.sideOf b.prizes s (b.lot x),Krag.sideOf b.prizes s (b.lot y),k⟩:Krab.Told).holds z then 1 else 0))
theorem a17 (b:Krag.Book) (x y:Nat):askB b 17 [x,y]=if (decide (b.lots.length<=x) || decide (b.lots.length<=y))=true then [-2] else allA b fun _ f=>told (Krag.say (if Krag.inEach f (b.lot x) (b.lot y) b.n then 1 else 0)):=by
 by_cases h:(decide (b.lots.length<=x) || decide (b.lots.length<=y))=true
 ·rw [if_pos h]
  show told (if (decide (b.lots.length<=x) || decide (b.lots.length<=y))=true then Krag.say (-2) else _)=_
  rw [if_pos h]
  rfl
 rw [if_neg h]
 show told (if (decide (b.lots.length<=x) || decide (b.lots.length<=y))=true then _ else _)=_
 rw [if_neg h]
 exact all_told (b:=b) (fun _ f=>Krag.say (if Krag.inEach f (b.lot x) (b.lot y) b.n then 1 else 0))
theorem a18 (b:Krag.Book) (g:List Nat):askB b 18 g=allA b fun x f=>told (Krag.list ((List.range b.lots.length).filter fun l=>(f.map fun z=>Krag.best (sidesOf b x) z).all fun k=>k.contains l)):=by
 exact all_told (b:=b) (fun x f=>Krag.list ((List.range b.lots.length).filter fun l=>(f.map fun z=>Krag.best (sidesOf b x) z).all fun k=>k.contains l))
theorem a19 (b:Krag.Book) (g:List Nat):askB b 19 g=allA b fun x f=>told (Krag.list ((List.range b.lots.length).filter fun l=>(f.map fun z=>Krag.best (sidesOf b x) z).any fun k=>k.contains l)):=by
 exact all_told (b:=b) (fun x f=>Krag.list ((List.range b.lots.length).filter fun l=>(f.map fun z=>Krag.best (sidesOf b x) z).any fun k=>k.contains l))
theorem a20 (b:Krag.Book) (p q:Nat):askB b 20 [p,q]=if b.prizes<=p\/b.prizes<=q then [-2] else allA b fun _ f=>told (Krag.say (if f.all fun z=>decide (z.getD q 0<z.getD p 0) then 2 else if f.all fun z=>decide (z.getD q 0<=z.getD p 0) then 1 else 0)):=by
 by_cases h:b.prizes<=p\/b.prizes<=q
 ·rw [if_pos h]
  show told (if b.prizes<=p\/b.prizes<=q then Krag.say (-2) else _)=_
  rw [if_pos h]
  rfl
 rw [if_neg h]
 show told (if b.prizes<=p\/b.prizes<=q then _ else _)=_
 rw [if_neg h]
 exact all_told (b:=b) (fun _ f=>Krag.say (if f.all fun z=>decide (z.getD q 0<z.getD p 0) then 2 else if f.all fun z=>decide (z.getD q 0<=z.getD p 0) then 1 else 0))
theorem a21 (b:Krag.Book) (s:Nat):askB b 21 [s]=if decide (Krae.sets b.n<=s)=true then [-22] else if b.lots=[] then [-6] else allA b fun x f=>told (match Krab.least f with
   | none=>Krag.say (-33)
   | some z=>{ num:=0,nums:=Krag.fraction (Krag.learnt b x z s - Krag.unlearnt b x z) (Krae.total x) }):=by
 by_cases h:decide (Krae.sets b.n<=s)=true
 ·rw [if_pos h]
  show told (if decide (Krae.sets b.n<=s)=true then Krag.say (-22) else _)=_
  rw [if_pos h]
  rfl
 rw [if_neg h]
 show told (if decide (Krae.sets b.n<=s)=true then _ else _)=_
 rw [if_neg h]
 clear h
 by_cases h:b.lots=[]
 ·rw [if_pos h,if_pos h]
  rfl
 rw [if_neg h,if_neg h]
 exact all_told (b:=b) (fun x f=>match Krab.least f with
   | none=>Krag.say (-33)
   | some z=>{ num:=0,nums:=Krag.fraction (Krag.learnt b x z s - Krag.unlearnt b x z) (Krae.total x) })
theorem a22 (b:Krag.Book) (g:List Nat):askB b 22 g=if b.lots=[] then [-6] else allA b fun x f=>told (match Krab.least f with
   | none=>Krag.say (-33)
   | some z=>{ num:=0,nums:=Krag.fraction (allS b x z - Krag.unlearnt b x z) (Krae.total x) }):=by
 by_cases h:b.lots=[]
 ·rw [if_pos h]
  show told (if b.lots=[] then Krag.say (-6) else _)=_
  rw [if_pos h]
  rfl
 rw [if_neg h]
 show told (if b.lots=[] then _ else _)=_
 rw [if_neg h]
 exact all_told (b:=b) (fun x f=>match Krab.least f with
   | none=>Krag.say (-33)
   | some z=>{ num:=0,nums:=Krag.fraction (allS b x z - Krag.unlearnt b x z) (Krae.total x) })
theorem a23 (b:Krag.Book) (g:List Nat):askB b 23 g=chanceA b fun x=>told (if b.fit.isEmpty then Krag.list (b.clashes x) else Krag.say (-33)):=by
 exact chance_told (b:=b) (fun x=>if b.fit.isEmpty then Krag.list (b.clashes x) else Krag.say (-33))
theorem a24 (b:Krag.Book) (g:List Nat):askB b 24 g=allA b fun _ f=>told (Krag.list ((List.range b.rather.length).filter fun i=>(Krag.Book.fit { b with rather:=b.rather.eraseIdx i }).length==f.length)):=by
 exact all_told (b:=b) (fun _ f=>Krag.list ((List.range b.rather.length).filter fun i=>(Krag.Book.fit { b with rather:=b.rather.eraseIdx i }).length==f.length))
theorem a25 (b:Krag.Book) (g:List Nat):askB b 25 g=if numbersB b.prizes g=false then [-22] else chanceA b fun y=>told (Krag.list ((List.range b.rather.length).filter fun i=>!(((b.told y).getD i ⟨[],[],2⟩).holds g))):=by
 by_cases h:numbersB b.prizes g=false
 ·rw [if_pos h]
  show told (if numbersB b.prizes g=false then Krag.say (-22) else _)=_
  rw [if_pos h]
  rfl
 rw [if_neg h]
 show told (if numbersB b.prizes g=false then _ else _)=_
 rw [if_neg h]
 exact chance_told (b:=b) (fun y=>Krag.list ((List.range b.rather.length).filter fun i=>!(((b.told y).getD i ⟨[],[],2⟩).holds g)))
theorem a26 (b:Krag.Book) (l:Nat):askB b 26 [l]=if decide (b.lots.length<=l)=true then [-2] else chanceA b fun x=>told (Krag.list (Krag.sideOf b.prizes x (b.lot l))):=by
 by_cases h:decide (b.lots.length<=l)=true
 ·rw [if_pos h]
  show told (if decide (b.lots.length<=l)=true then Krag.say (-2) else _)=_
  rw [if_pos h]
  rfl
 rw [if_neg h]
 show told (if decide (b.lots.length<=l)=true then _ else _)=_
 rw [if_neg h]
 exact chance_told (b:=b) (fun x=>Krag.list (Krag.sideOf b.prizes x (b.lot l)))
theorem lot_no (b:Krag.Book) (l:Nat):(decide (b.lots.length<=l)=true) ↔ decide (l<b.lots.length)=false:=by
 rw [decide_eq_true_eq,decide_eq_false_iff_not]
 omega
theorem d26:∀ c:Nat,c<27->c<10\/c=10\/c=11\/c=12\/c=13\/c=14\/c=15\/c=16\/c=17\/c=18\/c=19\/c=20\/c=21\/c=22\/c=23\/c=24\/c=25\/c=26:=by decide +kernel
theorem ask_ref {b:Krag.Book} {c:Nat} {g:List Nat} (h1:10<=c) (h2:c<=26) (hg:GOk c g) {r:Int} (h:refR b c g=some r):askB b c g=[r]:=by
 have hc:=(d26 c (Nat.lt_succ_of_le h2)).resolve_left (Nat.not_lt.mpr h1)
 have hl:=hg.2
 unfold refR thereB rightB lotsG at h
 rcases hc with rfl | rfl | rfl | rfl | rfl | rfl | rfl | rfl | rfl | rfl | rfl | rfl | rfl | rfl | rfl | rfl | rfl
 ·simp at h
 ·simp at h
 ·simp at h
 ·simp at h
  rw [a13,if_pos h.1,h.2]
 ·obtain ⟨l,rfl⟩:=len1 (hl (by decide))
  simp at h
  rw [a14,if_pos (by simpa using h.1),h.2]
 ·obtain ⟨x,y,rfl⟩:=len2 (hl (by decide))
  simp at h
  rw [a15,if_pos (by simp;omega),h.2]
 ·obtain ⟨k,x,y,rfl⟩:=len3 (hl (by decide))
  simp at h
  by_cases e:b.lots.length<=x\/b.lots.length<=y
  ·rw [a16,if_pos (by simpa using e)]
   rw [if_pos (by omega)] at h
   rw [Option.some.inj h]
  ·rw [a16,if_neg (by simpa using e)]
   rw [if_neg (by omega)] at h
   by_cases e2:2<k
   ·rw [if_pos e2] at h ⊢
    rw [Option.some.inj h]
   ·rw [if_neg e2] at h
    cases h
 ·obtain ⟨x,y,rfl⟩:=len2 (hl (by decide))
  simp at h
  rw [a17,if_pos (by simp;omega),h.2]
 ·simp at h
 ·simp at h
 ·obtain ⟨x,y,rfl⟩:=len2 (hl (by decide))
  simp at h
  rw [a20,if_pos (by omega),h.2]
 ·obtain ⟨s,rfl⟩:=len1 (hl (by decide))
  simp at h
  by_cases e:2 ^ b.n<=s
  ·rw [a21,if_pos (by rw [decide_eq_true_eq];exact e)]
   rw [if_pos e] at h
   rw [Option.some.inj h]
  ·rw [a21,if_neg (by rw [decide_eq_true_eq];exact e)]
   rw [if_neg e] at h
   by_cases e2:b.lots=[]
   ·rw [if_pos e2] at h ⊢
    rw [Option.some.inj h]
   ·rw [if_neg e2] at h
    cases h
 ·simp at h
  rw [a22,if_pos h.1,h.2]
 ·simp at h
 ·simp at h
 ·simp at h
  rw [a25,if_pos h.1,h.2]
 ·obtain ⟨l,rfl⟩:=len1 (hl (by decide))
  simp at h
  rw [a26,if_pos (by simpa using h.1),h.2]
theorem ref_none {b:Krag.Book} {c:Nat} {g:List Nat} (h:refR b c g=none):thereB b c g=true/\rightB b c g=true/\(c=21\/c=22->0<b.lots.length):=by
 unfold refR at h
 cases h1:thereB b c g with
 | false=>rw [h1] at h;simp at h
 | true=>
  cases h2:rightB b c g with
  | false=>rw [h1,h2] at h;simp at h
  | true=>
   refine ⟨rfl,rfl,fun e=>?_⟩
   rw [h1,h2] at h
   simp only [Bool.true_eq_false,if_false] at h
   by_cases e2:b.lots.length=0
   ·rw [if_pos ⟨e,e2⟩] at h;cases h
   ·omega
end
section
open KragNeutral (told)
theorem none_back {H H':Hp} {p:Addr} (s:Same H H') (h:H' p=none):H p=none:=by
 cases e:H p with
 | none=>rfl
 | some o=>rw [s _ _ e] at h;cases h
def AnsQ (H:Hp) (Q:VK) (ans:List Int):Prop:=∀ p H',H p=none->Same H H'->H' p=some (.lst (ans.map V.int))->Q (.ref p) H'
theorem AnsQ.mono {H H':Hp} {Q:VK} {ans:List Int} (q:AnsQ H Q ans) (s:Same H H'):AnsQ H' Q ans:=fun p H2 n s2 e=>q p H2 (none_back s n) (s.trans s2) e
theorem AnsQ.new {H H':Hp} {Q:VK} {ans:List Int} (q:AnsQ H Q ans) (s:Same H H') {p:Addr} {xs:List V} (n:H' p=none) (e:xs=ans.map V.int):Q (.ref p) (upd H' p (.lst xs)):=
 q p _ (none_back s n) (s.trans (Same.new n)) (by rw [upd_same,e])
theorem ni_map (l:List Nat):(ni l).map V.int=nv l:=(nv_ni l).symm
theorem told_list (l:List Nat):told (Krag.list l)=(l.length:Int)::ni l:=rfl
def spCounted:Sp:=fun vs H Q _=>∃ (l:Addr) (xs:List Nat),vs=[.ref l]/\H l=some (.lst (nv xs))/\xs.length<=1000/\AnsQ H Q (told (Krag.list xs))
def spYesNo:Sp:=fun vs H Q _=>∃ (v:Bool),vs=[.bl v]/\AnsQ H Q [if v=true then 1 else 0]
def spLotsGiven:Sp:=fun vs H Q _=>∃ (c:Nat) (l:Addr) (g:List Nat),vs=[.int (c:Int),.ref l]/\H l=some (.lst (nv g))/\g.length<=1000/\∀ p H',Same H H'->H' p=some (.lst (nv (lotsG c g)))->Q (.ref p) H'
def spThere (CT:Addr):Sp:=fun vs H Q _=>∃ (Z:Addr->Prop) (a:Addr) (b:Krag.Book) (c:Nat) (l:Addr) (g:List Nat),vs=[.ref a,.int (c:Int),.ref l]/\ToldAt Z CT H a b/\H l=some (.lst (nv g))/\g.length<=1000/\∀ H',Same H H'->Q (.bl (thereB b c g)) H'
def spRight (CT:Addr):Sp:=fun vs H Q _=>∃ (Z:Addr->Prop) (a:Addr) (b:Krag.Book) (c:Nat) (l:Addr) (g:List Nat),vs=[.ref a,.int (c:Int),.ref l]/\ToldAt Z CT H a b/\H l=some (.lst (nv g))/\GOk c g/\c<=30/\∀ H',Same H H'->Q (.bl (rightB b c g)) H'
def refV:Option Int->V
 | none=>.non
 | some r=>.int r
def spRefusal (CT:Addr):Sp:=fun vs H Q _=>∃ (Z:Addr->Prop) (a:Addr) (b:Krag.Book) (c:Nat) (l:Addr) (g:List Nat),vs=[.ref a,.int (c:Int),.ref l]/\ToldAt Z CT H a b/\H l=some (.lst (nv g))/\GOk c g/\c<=30/\∀ H',Same H H'->Q (refV (refR b c g)) H'
def spLeast:Sp:=fun vs H Q _=>∃ (l:Addr) (p:Nat) (rs:List (List Nat)),vs=[.ref l]/\FitAt H l p rs/\p<=4/\0<rs.length/\∀ z,Krab.least rs=some z->AnsQ H Q (((Krab.total z:Nat):Int)::ni z)
def spWorth (K:PySem.W.Frag) (CT:Addr):Sp:=fun vs H Q _=>∃ (Z:Addr->Prop) (a sl fl:Addr) (b:Krag.Book) (x:List Nat) (rs:List (List Nat)) (l:Nat),vs=[.ref a,.ref sl,.ref fl,.int (l:Int)]/\ToldAt Z CT H a b/\SqL K H sl (nv x)/\x.length=b.n/\1<=x.sum/\x.sum<=10/\FitAt H fl b.prizes rs/\0<rs.length/\l<b.lots.length/\
 AnsQ H Q (0::(Krag.fraction (minS (rs.map fun z=>Krag.worth b x z (b.lot l))) (Krae.total x)++Krag.fraction (maxS (rs.map fun z=>Krag.worth b x z (b.lot l))) (Krae.total x)))
def spClashes (K:PySem.W.Frag) (CT:Addr):Sp:=fun vs H Q _=>∃ (Z:Addr->Prop) (a sl:Addr) (b:Krag.Book) (x:List Nat),vs=[.ref a,.ref sl]/\ToldAt Z CT H a b/\SqL K H sl (nv x)/\b.shares=some x/\AnsQ H Q (told (if b.fit.isEmpty then Krag.list (b.clashes x) else Krag.say (-33)))
theorem sc51:FnScope ["rows"] ["rows"] (defScope s_51):=⟨rfl,rfl,rfl,by decide +kernel,rfl,by decide +kernel,by decide +kernel⟩
theorem ok51 (F:Fun K "counted" "counted" s_51 f fd) (T:Txt K mg CT CS):FnOk P w K mg base CX0 1 f fd ["rows"] spCounted:=by
 refine F.ok sc51 (fun vs H Q E h=>by obtain ⟨_,_,rfl,_⟩:=h;rfl) (fun cdv A outer s H vs Q E hr h=>?_)
 obtain ⟨l,xs,rfl,e,hx,q⟩:=h
 refine ⟨_,(pss_one (ps_ret (pe_op op_cat (pe_lst (pa_cons (pe_callB call_len_seq rfl T.b_len PySem.boot_len (pa_cons (pv 0) pa_nil)) pa_nil)) (pv 0)))),?_⟩
 walk_at "rd"
 refine ⟨_,.inl (SqL.of e),sml' (by decide),fun p hp=>?_⟩
 refine ⟨_,upd_same,_,(Same.new hp) _ _ e,sml' (by rw [nv_length];simp;omega),fun p2 hp2=>?_⟩
 refine (q.mono (Same.new hp)).new (Same.refl _) hp2 ?_
 rw [nv_length,told_list,List.map_cons,ni_map]
 rfl
theorem sc52:FnScope ["yes"] ["yes"] (defScope s_52):=⟨rfl,rfl,rfl,by decide +kernel,rfl,by decide +kernel,by decide +kernel⟩
theorem ok52 (F:Fun K "yes_or_no" "yes_or_no" s_52 f fd) (T:Txt K mg CT CS):FnOk P w K mg base CX0 1 f fd ["yes"] spYesNo:=by
 refine F.ok sc52 (fun vs H Q E h=>by obtain ⟨_,rfl,_⟩:=h;rfl) (fun cdv A outer s H vs Q E hr h=>?_)
 obtain ⟨v,rfl,q⟩:=h
 refine ⟨_,(pss_one (ps_ret (pe_ifExp (pt_val (pv 0)) (pe_lst (pa_cons pe_int pa_nil)) (pe_lst (pa_cons pe_int pa_nil))))),?_⟩
 walk_at "rd"
 cases v with
 | true=>
  rw [if_pos rfl]
  exact ⟨sml' (by decide),fun p hp=>q.new (Same.refl _) hp rfl⟩
 | false=>
  rw [if_neg (by simp)]
  exact ⟨sml' (by decide),fun p hp=>q.new (Same.refl _) hp rfl⟩
theorem inV_ints (c:Nat) (ks:List Nat):inV (.int (c:Int)) (nv ks)=decide (c ∈ ks):=by
 unfold inV nv
 rw [List.any_map,Bool.eq_iff_iff,List.any_eq_true,decide_eq_true_eq]
 constructor
 ·rintro ⟨k,h1,h2⟩
  have h2:((k:Int)==(c:Int))=true:=h2
  rw [beq_iff_eq] at h2
  have:k=c:=by omega
  subst this;exact h1
 ·intro h
  exact ⟨c,h,by show ((c:Int)==(c:Int))=true;simp⟩
theorem cut_from (xs:List V) (i:Nat):cutV xs (some (i:Int)) none=xs.drop i:=by
 unfold cutV
 rw [HT.sIx_nat,HT.sIx_none]
 by_cases h:i<=xs.length
 ·rw [Nat.min_eq_left h,List.take_of_length_le (by simp)]
 ·rw [Nat.min_eq_right (by omega),List.drop_of_length_le (by omega),List.drop_of_length_le (by omega)]
  simp
theorem cut_to (xs:List V) (i:Nat):cutV xs none (some (i:Int))=xs.take i:=by
 unfold cutV
 rw [HT.sIx_nat,HT.sIx_none,List.drop_zero,Nat.sub_zero]
 by_cases h:i<=xs.length
 ·rw [Nat.min_eq_left h]
 ·rw [Nat.min_eq_right (by omega),List.take_of_length_le (Nat.le_refl _),List.take_of_length_le (by omega)]
theorem nv_drop (l:List Nat) (i:Nat):(nv l).drop i=nv (l.drop i):=by unfold nv;rw [List.map_drop]
theorem nv_take (l:List Nat) (i:Nat):(nv l).take i=nv (l.take i):=by unfold nv;rw [List.map_take]
theorem flat_nv (l:List Nat):(nv l).all flatV=true:=by
 unfold nv
 rw [List.all_map]
 simp [Function.comp_def,flatV]
theorem sc53:FnScope ["call","given"] ["call","given"] (defScope s_53):=⟨rfl,rfl,rfl,by decide +kernel,rfl,by decide +kernel,by decide +kernel⟩
theorem ok53 (F:Fun K "lots_given" "lots_given" s_53 f fd) (T:Txt K mg CT CS):FnOk P w K mg base CX0 1 f fd ["call","given"] spLotsGiven:=by
 refine F.ok sc53 (fun vs H Q E h=>by obtain ⟨_,_,_,rfl,_⟩:=h;rfl) (fun cdv A outer s H vs Q E hr h=>?_)
 obtain ⟨c,l,g,rfl,e,hg,q⟩:=h
 refine ⟨_,(pss_cons (ps_if (pt_cmpR op_in_seq (pv 0) (pe_tup (pa_cons (pe_gi T.c_WORTH) (pa_cons (pe_gi T.c_MORE) (pa_cons (pe_gi T.c_INEACH) (pa_cons (pe_gi T.c_SIDE) pa_nil))))) (by with_unfolding_all rfl)) (pss_one (ps_ret (pv 1))) pss_nil)
  (pss_one (ps_ret (pe_ifExp (pt_cmpR op_eq (pv 0) (pe_gi T.c_MAY) (nomark _)) (pe_slice sl_list (pv 1) (po_some pe_int) po_none) (pe_lst pa_nil))))),?_⟩
 walk_at "rd"
 refine ⟨sml' (by decide),fun p hp=>⟨_,.inr (SqT.of upd_same),rfl,flat_nv [14,15,17,26],?_⟩⟩
 rw [show [V.int 14,V.int 15,V.int 17,V.int 26]=nv [14,15,17,26] from rfl,inV_ints]
 walk_at "rd"
 have s1:=Same.new (o:=.tup (nv [14,15,17,26])) hp
 unfold lotsG at q
 by_cases h1:c=14\/c=15\/c=17\/c=26
 ·rw [if_pos (by simpa using h1)]
  rw [if_pos h1] at q
  exact q l _ s1 (s1 _ _ e)
 ·rw [if_neg (by simpa using h1)]
  rw [if_neg h1] at q
  by_cases h2:c=16
  ·rw [if_pos (by omega)]
   rw [if_pos h2] at q
   refine ⟨_,SqL.of (s1 _ _ e),fun p2 hp2=>q p2 _ (s1.trans (Same.new hp2)) ?_⟩
   rw [upd_same,<-nv_drop]
   exact congrArg (fun z=>some (HO.lst z)) (cut_from (nv g) 1)
  ·rw [if_neg (by omega)]
   rw [if_neg h2] at q
   exact ⟨sml' (by decide),fun p2 hp2=>q p2 _ (s1.trans (Same.new hp2)) (by rw [upd_same];rfl)⟩
theorem sc54:FnScope ["told","call","given","prize","lot"] ["told","call","given"] (defScope s_54):=⟨rfl,rfl,rfl,by decide +kernel,rfl,by decide +kernel,by decide +kernel⟩
theorem ok54 (F:Fun K "is_given_there" "is_given_there" s_54 f fd) (T:Txt K mg CT CS) (c_10:Callee P w K mg base "has_prize" 1 ["told","prize"] (spHasPrize CT)) (c_8:Callee P w K mg base "has_lot" 1 ["told","lot"] (spHasLot CT)) (c_53:Callee P w K mg base "lots_given" 1 ["call","given"] spLotsGiven):FnOk P w K mg base CX0 2 f fd ["told","call","given"] (spThere CT):=by
 refine F.ok sc54 (fun vs H Q E h=>by obtain ⟨_,_,_,_,_,_,rfl,_⟩:=h;rfl) (fun cdv A outer s H vs Q E hr h=>?_)
 obtain ⟨Z,a,b,c,l,g,rfl,ht,e,hg,q⟩:=h
 refine ⟨_,(pss_cons (ps_if (pt_cmpR op_eq (pv 1) (pe_gi T.c_PRIZES) (nomark _)) (pss_one (ps_ret (pe_callB (cr_all rfl) rfl T.b_all boot_all (pa_cons (pe_lc (own:=[("prize",3)]) rfl sc54.nd (pi_list (pv 2)) (blkOk_by (N:=["told","call","given","prize","lot"]) (sc:=defScope s_54) (by decide +kernel)) (fun _ _ _ _ _=>(pN 3 sc54.nd)) (fun _ _ _ _ _=>pts_nil) (fun _ _ _ _ _=>(pe_fn c_10 (rm hr) (pa_cons (pv 0) (pa_cons (pv 3) pa_nil))))) pa_nil)))) pss_nil)
  (pss_one (ps_ret (pe_callB (cr_all rfl) rfl T.b_all boot_all (pa_cons (pe_lc (own:=[("lot",4)]) rfl sc54.nd (pi_list (pe_fn c_53 (rm hr) (pa_cons (pv 1) (pa_cons (pv 2) pa_nil)))) (blkOk_by (N:=["told","call","given","prize","lot"]) (sc:=defScope s_54) (by decide +kernel)) (fun _ _ _ _ _=>(pN 4 sc54.nd)) (fun _ _ _ _ _=>pts_nil) (fun _ _ _ _ _=>(pe_fn c_8 (rm hr) (pa_cons (pv 0) (pa_cons (pv 4) pa_nil))))) pa_nil))))),?_⟩
 walk_at "rd"
 unfold thereB at q
 by_cases h1:c=20
 ·rw [if_pos (by omega)]
  rw [if_pos h1] at q
  refine ⟨⟨_,SqL.of e⟩,fun D hD=>comp_of (yl_list (SqL.of e)) hD (fun i=>((g.take i).map fun v=>decide (v<b.prizes)).map V.bl) rfl (fun i hi=>?_) (fun i H v a y=>?_) (fun H s e=>?_)⟩
  ·rw [nv_length] at hi
   exact sml (by simp;omega)
  ·walk_at "rd"
   obtain ⟨n,hn',rfl⟩:=nv_get y
   walk_at "rd"
   refine ⟨Z,_,n,b,rfl,ht.mono a.same,a.yes (Same.refl _) ?_⟩
   rw [take_snoc hn'];simp
  ·walk_at "rd"
   rw [nv_length,List.take_length] at e
   refine ⟨_,SqL.of e,?_⟩
   have:=q H s
   rw [List.all_map]
   exact this
 ·rw [if_neg (by omega)]
  rw [if_neg h1] at q
  have hlen:(lotsG c g).length<=1000:=by
   unfold lotsG
   split
   ·exact hg
   ·split
    ·simp;omega
    ·simp
  refine ⟨c,l,g,rfl,e,hg,fun p1 H1 s1 e1=>?_⟩
  walk_at "rd"
  refine ⟨⟨_,SqL.of e1⟩,fun D hD=>comp_of (yl_list (SqL.of e1)) hD (fun i=>(((lotsG c g).take i).map fun v=>decide (v<b.lots.length)).map V.bl) rfl (fun i hi=>?_) (fun i H v a y=>?_) (fun H s e=>?_)⟩
  ·rw [nv_length] at hi
   exact sml (by simp;omega)
  ·walk_at "rd"
   obtain ⟨n,hn',rfl⟩:=nv_get y
   walk_at "rd"
   refine ⟨Z,_,n,b,rfl,ht.mono (s1.trans a.same),a.yes (Same.refl _) ?_⟩
   rw [take_snoc hn'];simp
  ·walk_at "rd"
   rw [nv_length,List.take_length] at e
   refine ⟨_,SqL.of e,?_⟩
   have:=q H (s1.trans s)
   rw [List.all_map]
   exact this
theorem sc55:FnScope ["told","call","given"] ["told","call","given"] (defScope s_55):=⟨rfl,rfl,rfl,by decide +kernel,rfl,by decide +kernel,by decide +kernel⟩
theorem ok55 (F:Fun K "is_given_right" "is_given_right" s_55 f fd) (T:Txt K mg CT CS) (c_12:Callee P w K mg base "is_numbers" 1 ["told","row"] (spIsNumbers K CT)) (c_6:Callee P w K mg base "is_kind" 1 ["kind"] spIsKind) (c_7:Callee P w K mg base "is_world_set" 1 ["told","chosen"] (spIsWorldSet CT)):FnOk P w K mg base CX0 2 f fd ["told","call","given"] (spRight CT):=by
 refine F.ok sc55 (fun vs H Q E h=>by obtain ⟨_,_,_,_,_,_,rfl,_⟩:=h;rfl) (fun cdv A outer s H vs Q E hr h=>?_)
 obtain ⟨Z,a,b,c,l,g,rfl,ht,e,hg,h30,q⟩:=h
 refine ⟨_,(pss_cons (ps_if (pt_cmpR op_in_seq (pv 1) (pe_tup (pa_cons (pe_gi T.c_FITS) (pa_cons (pe_gi T.c_WRONG) pa_nil))) (by with_unfolding_all rfl)) (pss_one (ps_ret (pe_fn c_12 (rm hr) (pa_cons (pv 0) (pa_cons (pv 2) pa_nil))))) pss_nil)
  (pss_cons (ps_if (pt_cmpR op_eq (pv 1) (pe_gi T.c_MAY) (nomark _)) (pss_one (ps_ret (pe_fn c_6 (rm hr) (pa_cons (pe_ix ix_list (pv 2) pe_int (fun _ _=>rfl)) pa_nil)))) pss_nil)
  (pss_one (ps_ret (pe_or (pe_cmpR op_ne (pv 1) (pe_gi T.c_LEARN) (nomark _)) (pe_one (pe_fn c_7 (rm hr) (pa_cons (pv 0) (pa_cons (pe_ix ix_list (pv 2) pe_int (fun _ _=>rfl)) pa_nil))))))))),?_⟩
 walk_at "rd"
 refine ⟨sml' (by decide),fun p hp=>⟨_,.inr (SqT.of upd_same),rfl,flat_nv [13,25],?_⟩⟩
 rw [show [V.int 13,V.int 25]=nv [13,25] from rfl,inV_ints]
 walk_at "rd"
 have s1:=Same.new (o:=.tup (nv [13,25])) hp
 unfold rightB at q
 by_cases h1:c=13\/c=25
 ·rw [if_pos (by simpa using h1)]
  rw [if_pos h1] at q
  exact ⟨Z,a,l,b,g,rfl,ht.mono s1,SqL.of (s1 _ _ e),by have:=hg.1;omega,fun H2 s2=>q H2 (s1.trans s2)⟩
 ·rw [if_neg (by simpa using h1)]
  rw [if_neg h1] at q
  by_cases h2:c=16
  ·rw [if_pos (by omega)]
   rw [if_pos h2] at q
   have hl:g.length=3:=by rw [h2] at hg;exact hg.2 (by decide)
   exact ⟨_,SqL.of (s1 _ _ e),_,atI_nat (j:=0) (nv_at (by omega)),g.getD 0 0,rfl,q _ s1⟩
  ·rw [if_neg (by omega)]
   rw [if_neg h2] at q
   by_cases h3:c=21
   ·have hl:g.length=1:=by rw [h3] at hg;exact hg.2 (by decide)
    rw [if_neg (by omega)]
    refine ⟨_,SqL.of (s1 _ _ e),_,atI_nat (j:=0) (nv_at (by omega)),Z,a,g.getD 0 0,b,rfl,ht.mono s1,?_⟩
    have:=q _ s1
    simpa [h3] using this
   ·rw [if_pos (by omega)]
    have:=q _ s1
    simpa [h3] using this
theorem sc56:FnScope ["told","call","given"] ["told","call","given"] (defScope s_56):=⟨rfl,rfl,rfl,by decide +kernel,rfl,by decide +kernel,by decide +kernel⟩
theorem ok56 (F:Fun K "refusal_of_given" "refusal_of_given" s_56 f fd) (T:Txt K mg CT CS) (c_54:Callee P w K mg base "is_given_there" 2 ["told","call","given"] (spThere CT)) (c_55:Callee P w K mg base "is_given_right" 2 ["told","call","given"] (spRight CT)):FnOk P w K mg base CX0 3 f fd ["told","call","given"] (spRefusal CT):=by
 refine F.ok sc56 (fun vs H Q E h=>by obtain ⟨_,_,_,_,_,_,rfl,_⟩:=h;rfl) (fun cdv A outer s H vs Q E hr h=>?_)
 obtain ⟨Z,a,b,c,l,g,rfl,ht,e,hg,h30,q⟩:=h
 refine ⟨_,(pss_cons (ps_if (pt_not (pt_val (pe_fn c_54 (rm hr) (pa_cons (pv 0) (pa_cons (pv 1) (pa_cons (pv 2) pa_nil)))))) (pss_one (ps_ret (pe_gi T.c_NONE_SUCH))) pss_nil)
  (pss_cons (ps_if (pt_not (pt_val (pe_fn c_55 (rm hr) (pa_cons (pv 0) (pa_cons (pv 1) (pa_cons (pv 2) pa_nil)))))) (pss_one (ps_ret (pe_gi T.c_NOT_RIGHT))) pss_nil)
  (pss_cons (ps_if (PW.pt (pw_and (pt_cmpR op_in_seq (pv 1) (pe_tup (pa_cons (pe_gi T.c_LEARN) (pa_cons (pe_gi T.c_LEARNALL) pa_nil))) (by with_unfolding_all rfl)) (pw_and1 (pt_cmpR op_eq (pe_callB call_len_seq rfl T.b_len PySem.boot_len (pa_cons (pe_lots T (pv 0)) pa_nil)) pe_int (nomark _))))) (pss_one (ps_ret (pe_gi T.c_NOTHING_THERE))) pss_nil)
  (pss_one (ps_ret pe_non))))),?_⟩
 walk_at "rd"
 refine ⟨Z,a,b,c,l,g,rfl,ht,e,by have:=hg.1;omega,fun H1 s1=>?_⟩
 walk_at "rd"
 unfold refR at q
 cases h1:thereB b c g with
 | false=>
  rw [h1] at q
  simp only [if_true] at q
  rw [if_pos rfl]
  exact q H1 s1
 | true=>
  rw [h1] at q
  simp only [Bool.true_eq_false,if_false] at q
  rw [if_neg (by simp)]
  refine ⟨Z,a,b,c,l,g,rfl,ht.mono s1,s1 _ _ e,hg,h30,fun H2 s2=>?_⟩
  walk_at "rd"
  cases h2:rightB b c g with
  | false=>
   rw [h2] at q
   simp only [if_true] at q
   rw [if_pos rfl]
   exact q H2 (s1.trans s2)
  | true=>
   rw [h2] at q
   simp only [Bool.true_eq_false,if_false] at q
   rw [if_neg (by simp)]
   have s12:=s1.trans s2
   refine ⟨sml' (by decide),fun p hp=>⟨_,.inr (SqT.of upd_same),rfl,flat_nv [21,22],?_⟩⟩
   rw [show [V.int 21,V.int 22]=nv [21,22] from rfl,inV_ints]
   walk_at "rd"
   have s3:=Same.new (o:=.tup (nv [21,22])) hp
   by_cases h3:c=21\/c=22
   ·rw [if_pos (by simpa using h3)]
    refine ⟨Z,b,_,ht.mono (s12.trans s3),Same.refl _,fun l2 hl2=>?_⟩
    obtain ⟨z,as,e1,pr⟩:=hl2
    refine ⟨_,.inl (SqL.of e1),?_⟩
    rw [List.length_map,Paired_len pr]
    by_cases h4:b.lots.length=0
    ·rw [if_pos (by omega)]
     rw [if_pos ⟨h3,h4⟩] at q
     exact q _ (s12.trans s3)
    ·rw [if_neg (by omega)]
     rw [if_neg (fun z=>h4 z.2)] at q
     exact q _ (s12.trans s3)
   ·rw [if_neg (by simpa using h3)]
    rw [if_neg (fun z=>h3 z.1)] at q
    exact q _ (s12.trans s3)
theorem sc57:FnScope ["fitting","numbers"] ["fitting"] (defScope s_57):=⟨rfl,rfl,rfl,by decide +kernel,rfl,by decide +kernel,by decide +kernel⟩
theorem ok57 (F:Fun K "least" "least" s_57 f fd) (T:Txt K mg CT CS) (c_31:Callee P w K mg base "least_numbers" 1 ["fitting"] spLeastNumbers):FnOk P w K mg base CX0 2 f fd ["fitting"] spLeast:=by
 refine F.ok sc57 (fun vs H Q E h=>by obtain ⟨_,_,_,rfl,_⟩:=h;rfl) (fun cdv A outer s H vs Q E hr h=>?_)
 obtain ⟨l,p,rs,rfl,hf,hp4,hne,q⟩:=h
 refine ⟨_,(pss_cons (pS 1 sc57.nd (pe_fn c_31 (rm hr) (pa_cons (pv 0) pa_nil)))
  (pss_one (ps_ret (pe_op op_cat (pe_lst (pa_cons (pe_callB (cr_sum rfl) rfl T.b_sum boot_sum (pa_cons (pv 1) pa_nil)) pa_nil)) (pv 1))))),?_⟩
 walk_at "rd"
 refine ⟨l,rs,rfl,hf.at_,hne,fun a z e hz hm=>?_⟩
 walk_at "rd"
 have hlr:=rows_len (hf.sub z hm)
 refine ⟨ni z,SqL.of (by rw [ni_map];exact e),sml' (by decide),fun p hp=>?_⟩
 refine ⟨_,upd_same,_,(Same.new hp) _ _ e,?_,fun p2 hp2=>?_⟩
 ·refine sml' ?_
  have:=nv_length z
  simp only [List.length_cons,List.length_nil]
  omega
 refine ((q z hz).mono (Same.new hp)).new (Same.refl _) hp2 ?_
 rw [List.map_cons,ni_map,ni_sum,total_eq]
 rfl
theorem sc58:FnScope ["told","shares","fitting","lot","ends","together"] ["told","shares","fitting","lot"] (defScope s_58):=⟨rfl,rfl,rfl,by decide +kernel,rfl,by decide +kernel,by decide +kernel⟩
theorem ok58 (F:Fun K "worth" "worth" s_58 f fd) (T:Txt K mg CT CS) (c_32:Callee P w K mg base "least_and_greatest_sum" 2 ["told","shares","fitting","lot"] (spEnds K CT)) (c_41:Callee P w K mg base "fraction" 2 ["upper","lower"] spFraction):FnOk P w K mg base CX0 3 f fd ["told","shares","fitting","lot"] (spWorth K CT):=by
 refine F.ok sc58 (fun vs H Q E h=>by obtain ⟨_,_,_,_,_,_,_,_,rfl,_⟩:=h;rfl) (fun cdv A outer s H vs Q E hr h=>?_)
 obtain ⟨Z,a,sl,fl,b,x,rs,l,rfl,ht,hx,hn,hx1,hx2,hf,hne,hl,q⟩:=h
 refine ⟨_,(pss_cons (pS 4 sc58.nd (pe_fn c_32 (rm hr) (pa_cons (pv 0) (pa_cons (pv 1) (pa_cons (pv 2) (pa_cons (pv 3) pa_nil))))))
  (pss_cons (pS 5 sc58.nd (pe_callB (cr_sum rfl) rfl T.b_sum boot_sum (pa_cons (pv 1) pa_nil)))
  (pss_one (ps_ret (pe_op op_cat (pe_op op_cat (pe_lst (pa_cons pe_int pa_nil)) (pe_fn c_41 (rm hr) (pa_cons (pe_ix ix_tup (pv 4) pe_int (fun _ _=>rfl)) (pa_cons (pv 5) pa_nil)))) (pe_fn c_41 (rm hr) (pa_cons (pe_ix ix_tup (pv 4) pe_int (fun _ _=>rfl)) (pa_cons (pv 5) pa_nil)))))))),?_⟩
 walk_at "rd"
 refine ⟨Z,a,sl,fl,b,x,rs,l,rfl,ht,hx,hn,hf,hne,hl,fun p1 H1 s1 e1=>?_⟩
 walk_at "rd"
 refine ⟨ni x,s1.seq (by rw [ni_map];exact hx),sml' (by decide),fun p2 n2=>?_⟩
 have s2:Same H1 _:=Same.new (o:=.lst [V.int 0]) n2
 refine ⟨_,SqT.of (s2 _ _ e1),_,atI_nat (j:=0) rfl,?_⟩
 rw [ni_sum]
 refine ⟨_,x.sum,rfl,by omega,by omega,fun p3 n3=>?_⟩
 have s3:=Same.new (o:=.lst ((Krag.fraction (minS (rs.map fun z=>Krag.worth b x z (b.lot l))) x.sum).map V.int)) n3
 refine ⟨_,rfl,_,s3 _ _ upd_same,_,upd_same,sml' (by unfold Krag.fraction;simp),fun p4 n4=>?_⟩
 have s4:=Same.new (o:=.lst ([V.int 0]++(Krag.fraction (minS (rs.map fun z=>Krag.worth b x z (b.lot l))) x.sum).map V.int)) n4
 walk_at "rd"
 refine ⟨_,SqT.of (s4 _ _ (s3 _ _ (s2 _ _ e1))),_,atI_nat (j:=1) rfl,?_⟩
 refine ⟨_,x.sum,rfl,by omega,by omega,fun p5 n5=>?_⟩
 have s5:=Same.new (o:=.lst ((Krag.fraction (maxS (rs.map fun z=>Krag.worth b x z (b.lot l))) x.sum).map V.int)) n5
 refine ⟨_,rfl,_,s5 _ _ upd_same,_,upd_same,sml' (by unfold Krag.fraction;simp),fun p6 n6=>?_⟩
 refine q.new ((((s1.trans s2).trans s3).trans s4).trans s5) n6 ?_
 rw [ktotal_eq,List.map_cons,List.map_append]
 rfl
theorem sc59:FnScope ["told","shares","found"] ["told","shares"] (defScope s_59):=⟨rfl,rfl,rfl,by decide +kernel,rfl,by decide +kernel,by decide +kernel⟩
theorem ok59 (F:Fun K "clashes" "clashes" s_59 f fd) (T:Txt K mg CT CS) (c_29:Callee P w K mg base "all_clashes" 5 ["told","shares"] (spAllClashes K CT)) (c_51:Callee P w K mg base "counted" 1 ["rows"] spCounted):FnOk P w K mg base CX0 6 f fd ["told","shares"] (spClashes K CT):=by
 refine F.ok sc59 (fun vs H Q E h=>by obtain ⟨_,_,_,_,_,rfl,_⟩:=h;rfl) (fun cdv A outer s H vs Q E hr h=>?_)
 obtain ⟨Z,a,sl,b,x,rfl,ht,hx,hs,q⟩:=h
 refine ⟨_,(pss_cons (pS 2 sc59.nd (pe_fn c_29 (rm hr) (pa_cons (pv 0) (pa_cons (pv 1) pa_nil))))
  (pss_one (ps_ret (pe_ifExp (pt_cmpR op_eq (pe_callB call_len_seq rfl T.b_len PySem.boot_len (pa_cons (pv 2) pa_nil)) pe_int (nomark _)) (pe_lst (pa_cons (pe_gi T.c_NO_NUMBERS) pa_nil)) (pe_fn c_51 (rm hr) (pa_cons (pv 2) pa_nil)))))),?_⟩
 walk_at "rd"
 have ok:=ht.ok
 have hlen:(b.told x).length<=5:=by rw [told_length];exact ok.r5
 refine ⟨Z,a,sl,b,x,rfl,ht,hx,hs,fun p1 H1 s1 e1=>?_⟩
 walk_at "rd"
 refine ⟨_,.inl (SqL.of e1),?_⟩
 rw [nv_length]
 have hn:=clashes_none hs hlen
 by_cases h:(b.clashes x).length=0
 ·rw [if_pos (by omega)]
  rw [show b.fit.isEmpty=false by rw [hn,List.length_eq_zero_iff.mp h];rfl] at q
  exact ⟨sml' (by decide),fun p2 n2=>q.new s1 n2 rfl⟩
 ·rw [if_neg (by omega)]
  have hf:(b.clashes x).isEmpty=false:=by
   cases e:b.clashes x with
   | nil=>rw [e] at h;exact absurd rfl h
   | cons y r=>rfl
  rw [show b.fit.isEmpty=true by rw [hn,hf];rfl] at q
  refine ⟨p1,_,rfl,e1,?_,q.mono s1⟩
  have h2:(b.clashes x).length<=2 ^ (b.told x).length:=by
   unfold Krag.Book.clashes
   refine Nat.le_trans (List.length_filter_le _ _) (Nat.le_trans (List.length_filter_le _ _) ?_)
   simp
  have:2 ^ (b.told x).length<=2 ^ 5:=Nat.pow_le_pow_right (by decide) hlen
  omega
end
section
open KragNeutral (told)
theorem allA_some {b:Krag.Book} {x:List Nat} {F:List Nat->List (List Nat)->List Int} (hs:b.shares=some x) (hne:0<b.fit.length):allA b F=F x b.fit:=by
 unfold allA
 rw [hs]
 cases h:b.fit with
 | nil=>rw [h] at hne;simp at hne
 | cons y r=>rfl
theorem allA_none {b:Krag.Book} {x:List Nat} {F:List Nat->List (List Nat)->List Int} (hs:b.shares=some x) (hne:b.fit.length=0):allA b F=[-33]:=by
 unfold allA
 rw [hs,List.length_eq_zero_iff.mp hne]
theorem chA_some {b:Krag.Book} {x:List Nat} {F:List Nat->List Int} (hs:b.shares=some x):chanceA b F=F x:=by
 unfold chanceA
 rw [hs]
structure AskAt (K:PySem.W.Frag) (CT:Addr) (H:Hp) (a sl gl:Addr) (b:Krag.Book) (x:List Nat) (c:Nat) (g:List Nat):Prop where
 told:∃ Z,ToldAt Z CT H a b
 sh:SqL K H sl (nv x)
 hs:b.shares=some x
 at_:H gl=some (.lst (nv g))
 gok:GOk c g
 ref:refR b c g=none
theorem AskAt.mono {K:PySem.W.Frag} {CT:Addr} {H H':Hp} {a sl gl:Addr} {b:Krag.Book} {x:List Nat} {c:Nat} {g:List Nat} (h:AskAt K CT H a sl gl b x c g) (s:Same H H'):AskAt K CT H' a sl gl b x c g:=by
 obtain ⟨⟨Z,t⟩,h1,h2,h3,h4,h5⟩:=h
 exact ⟨⟨Z,t.mono s⟩,s.seq h1,h2,s _ _ h3,h4,h5⟩
def spAskedTwo (K:PySem.W.Frag) (CT:Addr):Sp:=fun vs H Q _=>∃ (a sl fl gl:Addr) (b:Krag.Book) (x:List Nat) (c:Nat) (g:List Nat),vs=[.ref a,.ref sl,.ref fl,.int (c:Int),.ref gl]/\AskAt K CT H a sl gl b x c g/\(c=15\/c=16\/c=17\/c=20)/\FitAt H fl b.prizes b.fit/\0<b.fit.length/\AnsQ H Q (askB b c g)
def spAskedNum (K:PySem.W.Frag) (CT:Addr):Sp:=fun vs H Q _=>∃ (a sl gl:Addr) (b:Krag.Book) (x:List Nat) (c:Nat) (g:List Nat),vs=[.ref a,.ref sl,.int (c:Int),.ref gl]/\AskAt K CT H a sl gl b x c g/\(c=12\/c=14\/c=15\/c=16\/c=17\/c=18\/c=19\/c=20\/c=21\/c=22\/c=24)/\AnsQ H Q (askB b c g)
def spAsked (K:PySem.W.Frag) (CT:Addr):Sp:=fun vs H Q _=>∃ (Z:Addr->Prop) (a gl:Addr) (b:Krag.Book) (c:Nat) (g:List Nat),vs=[.ref a,.int (c:Int),.ref gl]/\ToldAt Z CT H a b/\H gl=some (.lst (nv g))/\GOk c g/\10<=c/\c<=26/\AnsQ H Q (askB b c g)
theorem fit_at {H:Hp} {p:Addr} {b:Krag.Book} {x:List Nat} (ok:BookOk b) (hs:b.shares=some x) (h:RowsAt NoZ H p b.fit):FitAt H p b.prizes b.fit:=by
 refine ⟨h,fun z hz=>?_,?_⟩
 ·rw [book_fit hs] at hz
  exact (List.mem_filter.mp hz).1
 ·rw [book_fit hs]
  refine Nat.le_trans (List.length_filter_le _ _) ?_
  rw [rows_count]
  exact Nat.le_trans (Nat.pow_le_pow_right (by decide) ok.p4) (by decide)
theorem sc60:FnScope ["told","shares","fitting","call","given"] ["told","shares","fitting","call","given"] (defScope s_60):=⟨rfl,rfl,rfl,by decide +kernel,rfl,by decide +kernel,by decide +kernel⟩
theorem ok60 (F:Fun K "asked_of_two" "asked_of_two" s_60 f fd) (T:Txt K mg CT CS) (c_34:Callee P w K mg base "surely_more" 3 ["told","shares","fitting","first","second"] (spSurelyMore K CT)) (c_52:Callee P w K mg base "yes_or_no" 1 ["yes"] spYesNo) (c_36:Callee P w K mg base "some_agree" 4 ["told","shares","fitting","kind","first","second"] (spSomeAgree K CT)) (c_37:Callee P w K mg base "no_worse_in_each_world" 3 ["told","fitting","first","second"] (spNoWorse CT)) (c_35:Callee P w K mg base "prize_surely_more" 2 ["fitting","first","second"] spPrizeMore):FnOk P w K mg base CX0 5 f fd ["told","shares","fitting","call","given"] (spAskedTwo K CT):=by
 refine F.ok sc60 (fun vs H Q E h=>by obtain ⟨_,_,_,_,_,_,_,_,rfl,_⟩:=h;rfl) (fun cdv A outer s H vs Q E hr h=>?_)
 obtain ⟨a,sl,fl,gl,b,x,c,g,rfl,⟨⟨Z,ht⟩,hx,hs,e,gok,href⟩,hc,hf,hne,q⟩:=h
 refine ⟨_,(pss_cons (ps_if (pt_cmpR op_eq (pv 3) (pe_gi T.c_MORE) (nomark _)) (pss_one (ps_ret (pe_lst (pa_cons (pe_fn c_34 (rm hr) (pa_cons (pv 0) (pa_cons (pv 1) (pa_cons (pv 2) (pa_cons (pe_ix ix_list (pv 4) pe_int (fun _ _=>rfl)) (pa_cons (pe_ix ix_list (pv 4) pe_int (fun _ _=>rfl)) pa_nil)))))) pa_nil)))) pss_nil)
  (pss_cons (ps_if (pt_cmpR op_eq (pv 3) (pe_gi T.c_MAY) (nomark _)) (pss_one (ps_ret (pe_fn c_52 (rm hr) (pa_cons (pe_fn c_36 (rm hr) (pa_cons (pv 0) (pa_cons (pv 1) (pa_cons (pv 2) (pa_cons (pe_ix ix_list (pv 4) pe_int (fun _ _=>rfl)) (pa_cons (pe_ix ix_list (pv 4) pe_int (fun _ _=>rfl)) (pa_cons (pe_ix ix_list (pv 4) pe_int (fun _ _=>rfl)) pa_nil))))))) pa_nil)))) pss_nil)
  (pss_cons (ps_if (pt_cmpR op_eq (pv 3) (pe_gi T.c_INEACH) (nomark _)) (pss_one (ps_ret (pe_fn c_52 (rm hr) (pa_cons (pe_fn c_37 (rm hr) (pa_cons (pv 0) (pa_cons (pv 2) (pa_cons (pe_ix ix_list (pv 4) pe_int (fun _ _=>rfl)) (pa_cons (pe_ix ix_list (pv 4) pe_int (fun _ _=>rfl)) pa_nil))))) pa_nil)))) pss_nil)
  (pss_one (ps_ret (pe_lst (pa_cons (pe_fn c_35 (rm hr) (pa_cons (pv 2) (pa_cons (pe_ix ix_list (pv 4) pe_int (fun _ _=>rfl)) (pa_cons (pe_ix ix_list (pv 4) pe_int (fun _ _=>rfl)) pa_nil)))) pa_nil))))))),?_⟩
 walk_at "rd"
 obtain ⟨r1,r2,r3⟩:=ref_none href
 have hxl:=(shares_facts hs).1
 have hl:=gok.2
 rcases hc with rfl | rfl | rfl | rfl
 ·obtain ⟨u,v,rfl⟩:=len2 (hl (by decide))
  rw [if_pos (by decide)]
  have hu:u<b.lots.length/\v<b.lots.length:=by simpa [thereB,lotsG] using r1
  refine ⟨_,SqL.of e,_,rfl,_,SqL.of e,_,rfl,Z,a,sl,fl,b,x,b.fit,u,v,rfl,ht,hx,hxl,hf,hne,hu.1,hu.2,fun H1 s1=>?_⟩
  walk_at "rd"
  refine ⟨sml' (by decide),fun p hp=>q.new s1 hp ?_⟩
  rw [a15,if_neg (by simp;omega),allA_some hs hne]
  rfl
 ·obtain ⟨k,u,v,rfl⟩:=len3 (hl (by decide))
  rw [if_neg (by decide),if_pos (by decide)]
  have hu:u<b.lots.length/\v<b.lots.length:=by simpa [thereB,lotsG] using r1
  have hk:k<=2:=by simpa [rightB] using r2
  refine ⟨_,SqL.of e,_,rfl,_,SqL.of e,_,rfl,_,SqL.of e,_,rfl,Z,a,sl,fl,b,x,b.fit,k,u,v,rfl,ht,hx,hxl,hf,hu.1,hu.2,fun H1 s1=>?_⟩
  refine ⟨_,rfl,?_⟩
  rw [a16,if_neg (by simp;omega),if_neg (by omega),allA_some hs hne] at q
  exact q.mono s1
 ·obtain ⟨u,v,rfl⟩:=len2 (hl (by decide))
  rw [if_neg (by decide),if_neg (by decide),if_pos (by decide)]
  have hu:u<b.lots.length/\v<b.lots.length:=by simpa [thereB,lotsG] using r1
  refine ⟨_,SqL.of e,_,rfl,_,SqL.of e,_,rfl,Z,a,fl,b,b.fit,u,v,rfl,ht,hf,hne,hu.1,hu.2,fun H1 s1=>?_⟩
  refine ⟨_,rfl,?_⟩
  rw [a17,if_neg (by simp;omega),allA_some hs hne] at q
  exact q.mono s1
 ·obtain ⟨u,v,rfl⟩:=len2 (hl (by decide))
  rw [if_neg (by decide),if_neg (by decide),if_neg (by decide)]
  have hu:u<b.prizes/\v<b.prizes:=by simpa [thereB,lotsG] using r1
  refine ⟨_,SqL.of e,_,rfl,_,SqL.of e,_,rfl,fl,b.prizes,b.fit,u,v,rfl,hf,hne,hu.1,hu.2,fun H1 s1=>?_⟩
  walk_at "rd"
  refine ⟨sml' (by decide),fun p hp=>q.new s1 hp ?_⟩
  rw [a20,if_neg (by omega),allA_some hs hne]
  have:=prizes_eq b.fit u v
  rw [<-this]
  show _=[V.int _]
  simp only [List.cons.injEq,V.int.injEq,and_true]
  show ((_:Nat):Int)=(if _ then (2:Int) else if _ then 1 else 0)
  split
  ·rfl
  ·split <;> rfl
end
section
open KragNeutral (told)
theorem ask_all {b:Krag.Book} {c:Nat} {g:List Nat} (hc:c=12\/c=14\/c=15\/c=16\/c=17\/c=18\/c=19\/c=20\/c=21\/c=22\/c=24) (hg:GOk c g) (hr:refR b c g=none):∃ F,askB b c g=allA b F:=by
 obtain ⟨r1,r2,r3⟩:=ref_none hr
 have hl:=hg.2
 rcases hc with rfl | rfl | rfl | rfl | rfl | rfl | rfl | rfl | rfl | rfl | rfl
 ·exact ⟨_,a12 b g⟩
 ·obtain ⟨l,rfl⟩:=len1 (hl (by decide))
  have hu:l<b.lots.length:=by simpa [thereB,lotsG] using r1
  exact ⟨_,(a14 b l).trans (if_neg (by simp;omega))⟩
 ·obtain ⟨u,v,rfl⟩:=len2 (hl (by decide))
  have hu:u<b.lots.length/\v<b.lots.length:=by simpa [thereB,lotsG] using r1
  exact ⟨_,(a15 b u v).trans (if_neg (by simp;omega))⟩
 ·obtain ⟨k,u,v,rfl⟩:=len3 (hl (by decide))
  have hu:u<b.lots.length/\v<b.lots.length:=by simpa [thereB,lotsG] using r1
  have hk:k<=2:=by simpa [rightB] using r2
  exact ⟨_,((a16 b k u v).trans (if_neg (by simp;omega))).trans (if_neg (by omega))⟩
 ·obtain ⟨u,v,rfl⟩:=len2 (hl (by decide))
  have hu:u<b.lots.length/\v<b.lots.length:=by simpa [thereB,lotsG] using r1
  exact ⟨_,(a17 b u v).trans (if_neg (by simp;omega))⟩
 ·exact ⟨_,a18 b g⟩
 ·exact ⟨_,a19 b g⟩
 ·obtain ⟨u,v,rfl⟩:=len2 (hl (by decide))
  have hu:u<b.prizes/\v<b.prizes:=by simpa [thereB,lotsG] using r1
  exact ⟨_,(a20 b u v).trans (if_neg (by omega))⟩
 ·obtain ⟨s,rfl⟩:=len1 (hl (by decide))
  have hu:s<2 ^ b.n:=by simpa [rightB] using r2
  have h0:b.lots ≠ []:=fun z=>by have:=r3 (.inl rfl);rw [z] at this;simp at this
  exact ⟨_,((a21 b s).trans (if_neg (by rw [decide_eq_true_eq];show ¬ 2 ^ b.n<=s;omega))).trans (if_neg h0)⟩
 ·have h0:b.lots ≠ []:=fun z=>by have:=r3 (.inr rfl);rw [z] at this;simp at this
  exact ⟨_,(a22 b g).trans (if_neg h0)⟩
 ·exact ⟨_,a24 b g⟩
theorem ask_ch {b:Krag.Book} {c:Nat} {g:List Nat} (hc:c=10\/c=11\/c=13\/c=23\/c=25\/c=26) (hg:GOk c g) (hr:refR b c g=none):∃ F,askB b c g=chanceA b F:=by
 obtain ⟨r1,r2,r3⟩:=ref_none hr
 have hl:=hg.2
 rcases hc with rfl | rfl | rfl | rfl | rfl | rfl
 ·exact ⟨_,a10 b g⟩
 ·exact ⟨_,a11 b g⟩
 ·have hu:numbersB b.prizes g=true:=by simpa [rightB] using r2
  exact ⟨_,(a13 b g).trans (if_neg (by simp [hu]))⟩
 ·exact ⟨_,a23 b g⟩
 ·have hu:numbersB b.prizes g=true:=by simpa [rightB] using r2
  exact ⟨_,(a25 b g).trans (if_neg (by simp [hu]))⟩
 ·obtain ⟨l,rfl⟩:=len1 (hl (by decide))
  have hu:l<b.lots.length:=by simpa [thereB,lotsG] using r1
  exact ⟨_,(a26 b l).trans (if_neg (by simp;omega))⟩
theorem dno:∀ c:Nat,c<27->c<10\/c=10\/c=11\/c=13\/c=23\/c=25\/c=26\/c=12\/c=14\/c=15\/c=16\/c=17\/c=18\/c=19\/c=20\/c=21\/c=22\/c=24:=by decide +kernel
theorem ask_no {b:Krag.Book} {c:Nat} {g:List Nat} (h1:10<=c) (h2:c<=26) (hg:GOk c g) (hr:refR b c g=none) (hs:b.shares=none):askB b c g=[-61]:=by
 by_cases hc:c=10\/c=11\/c=13\/c=23\/c=25\/c=26
 ·obtain ⟨F,e⟩:=ask_ch hc hg hr
  rw [e]
  unfold chanceA
  rw [hs]
 ·obtain ⟨F,e⟩:=ask_all (c:=c) ((((((((dno c (Nat.lt_succ_of_le h2)).resolve_left (Nat.not_lt.mpr h1)).resolve_left (fun z=>hc (.inl z))).resolve_left (fun z=>hc (.inr (.inl z)))).resolve_left (fun z=>hc (.inr (.inr (.inl z))))).resolve_left (fun z=>hc (.inr (.inr (.inr (.inl z)))))).resolve_left (fun z=>hc (.inr (.inr (.inr (.inr (.inl z))))))).resolve_left (fun z=>hc (.inr (.inr (.inr (.inr (.inr z))))))) hg hr
  rw [e]
  unfold allA
  rw [hs]
theorem wrongL_told (b:Krag.Book) (x z:List Nat):wrongL (gapsOf b x) z=(List.range b.rather.length).filter fun i=>!(((b.told x).getD i ⟨[],[],2⟩).holds z):=by
 unfold wrongL
 rw [show (gapsOf b x).length=b.rather.length by unfold gapsOf;simp]
 refine List.filter_congr fun i hi=>?_
 have hi:=List.mem_range.mp hi
 have e1:(gapsOf b x).getD i (0,[])=((b.rather[i]).kind,gapsB b x (b.rather[i]).a (b.rather[i]).b):=by
  unfold gapsOf
  rw [List.getD_eq_getElem?_getD,List.getElem?_map,List.getElem?_eq_getElem hi]
  rfl
 have e2:(b.told x).getD i ⟨[],[],2⟩=⟨Krag.sideOf b.prizes x (b.lot (b.rather[i]).a),Krag.sideOf b.prizes x (b.lot (b.rather[i]).b),(b.rather[i]).kind⟩:=by
  unfold Krag.Book.told
  rw [List.getD_eq_getElem?_getD,List.getElem?_map,List.getElem?_eq_getElem hi]
  rfl
 rw [e1,e2,agrees_told]
theorem wrongL_nil (b:Krag.Book) (x z:List Nat):(wrongL (gapsOf b x) z).length=0 ↔ ((b.told x).all fun t=>t.holds z)=true:=by
 rw [wrongL_told,all_getD,List.length_eq_zero_iff,List.filter_eq_nil_iff,told_length]
 constructor
 ·intro h i hi
  have:=h i (List.mem_range.mpr hi)
  simpa using this
 ·intro h i hi
  have:=h i (List.mem_range.mp hi)
  rw [this];simp
theorem sc61:FnScope ["told","shares","call","given","fitting"] ["told","shares","call","given"] (defScope s_61):=⟨rfl,rfl,rfl,by decide +kernel,rfl,by decide +kernel,by decide +kernel⟩
theorem ok61 (F:Fun K "asked_of_numbers" "asked_of_numbers" s_61 f fd) (T:Txt K mg CT CS)
  (c_21:Callee P w K mg base "all_that_fit" 4 ["told","shares"] (spAllThatFit K CT))
  (c_57:Callee P w K mg base "least" 2 ["fitting"] spLeast)
  (c_58:Callee P w K mg base "worth" 3 ["told","shares","fitting","lot"] (spWorth K CT))
  (c_51:Callee P w K mg base "counted" 1 ["rows"] spCounted)
  (c_39:Callee P w K mg base "best_lots" 3 ["told","shares","fitting","least_often"] (spBestLots K CT))
  (c_30:Callee P w K mg base "all_to_spare" 5 ["told","shares"] (spAllToSpare K CT))
  (c_31:Callee P w K mg base "least_numbers" 1 ["fitting"] spLeastNumbers)
  (c_45:Callee P w K mg base "worth_of_learning_whether" 5 ["told","shares","numbers","chosen"] (spWhether K CT))
  (c_46:Callee P w K mg base "worth_of_learning_all" 5 ["told","shares","numbers"] (spLearnAll K CT))
  (c_60:Callee P w K mg base "asked_of_two" 5 ["told","shares","fitting","call","given"] (spAskedTwo K CT)) :
  FnOk P w K mg base CX0 6 f fd ["told","shares","call","given"] (spAskedNum K CT):=by
 refine F.ok sc61 (fun vs H Q E h=>by obtain ⟨_,_,_,_,_,_,_,rfl,_⟩:=h;rfl) (fun cdv A outer s H vs Q E hr h=>?_)
 obtain ⟨a,sl,gl,b,x,c,g,rfl,ask,hc,q⟩:=h
 obtain ⟨⟨Z,ht⟩,hx,hs,e,gok,href⟩:=id ask
 refine ⟨_,(pss_cons (pS 4 sc61.nd (pe_fn c_21 (rm hr) (pa_cons (pv 0) (pa_cons (pv 1) pa_nil))))
  (pss_cons (ps_if (pt_cmpR op_eq (pe_callB call_len_seq rfl T.b_len PySem.boot_len (pa_cons (pv 4) pa_nil)) pe_int (nomark _)) (pss_one (ps_ret (pe_lst (pa_cons (pe_gi T.c_NO_NUMBERS) pa_nil)))) pss_nil)
  (pss_cons (ps_if (pt_cmpR op_eq (pv 2) (pe_gi T.c_LEAST) (nomark _)) (pss_one (ps_ret (pe_fn c_57 (rm hr) (pa_cons (pv 4) pa_nil)))) pss_nil)
  (pss_cons (ps_if (pt_cmpR op_eq (pv 2) (pe_gi T.c_WORTH) (nomark _)) (pss_one (ps_ret (pe_fn c_58 (rm hr) (pa_cons (pv 0) (pa_cons (pv 1) (pa_cons (pv 4) (pa_cons (pe_ix ix_list (pv 3) pe_int (fun _ _=>rfl)) pa_nil))))))) pss_nil)
  (pss_cons (ps_if (pt_cmpR op_eq (pv 2) (pe_gi T.c_BEST) (nomark _)) (pss_one (ps_ret (pe_fn c_51 (rm hr) (pa_cons (pe_fn c_39 (rm hr) (pa_cons (pv 0) (pa_cons (pv 1) (pa_cons (pv 4) (pa_cons (pe_callB call_len_seq rfl T.b_len PySem.boot_len (pa_cons (pv 4) pa_nil)) pa_nil))))) pa_nil)))) pss_nil)
  (pss_cons (ps_if (pt_cmpR op_eq (pv 2) (pe_gi T.c_MAYBEST) (nomark _)) (pss_one (ps_ret (pe_fn c_51 (rm hr) (pa_cons (pe_fn c_39 (rm hr) (pa_cons (pv 0) (pa_cons (pv 1) (pa_cons (pv 4) (pa_cons pe_int pa_nil))))) pa_nil)))) pss_nil)
  (pss_cons (ps_if (pt_cmpR op_eq (pv 2) (pe_gi T.c_SPARE) (nomark _)) (pss_one (ps_ret (pe_fn c_51 (rm hr) (pa_cons (pe_fn c_30 (rm hr) (pa_cons (pv 0) (pa_cons (pv 1) pa_nil))) pa_nil)))) pss_nil)
  (pss_cons (ps_if (pt_cmpR op_eq (pv 2) (pe_gi T.c_LEARN) (nomark _)) (pss_one (ps_ret (pe_op op_cat (pe_lst (pa_cons pe_int pa_nil)) (pe_fn c_45 (rm hr) (pa_cons (pv 0) (pa_cons (pv 1) (pa_cons (pe_fn c_31 (rm hr) (pa_cons (pv 4) pa_nil)) (pa_cons (pe_ix ix_list (pv 3) pe_int (fun _ _=>rfl)) pa_nil)))))))) pss_nil)
  (pss_cons (ps_if (pt_cmpR op_eq (pv 2) (pe_gi T.c_LEARNALL) (nomark _)) (pss_one (ps_ret (pe_op op_cat (pe_lst (pa_cons pe_int pa_nil)) (pe_fn c_46 (rm hr) (pa_cons (pv 0) (pa_cons (pv 1) (pa_cons (pe_fn c_31 (rm hr) (pa_cons (pv 4) pa_nil)) pa_nil))))))) pss_nil)
  (pss_one (ps_ret (pe_fn c_60 (rm hr) (pa_cons (pv 0) (pa_cons (pv 1) (pa_cons (pv 4) (pa_cons (pv 2) (pa_cons (pv 3) pa_nil))))))))))))))))),?_⟩
 walk_at "rd"
 have ok:=ht.ok
 obtain ⟨r1,r2,r3⟩:=ref_none href
 obtain ⟨hxl,hx1,hx2,_⟩:=shares_facts hs
 have hl:=gok.2
 have hp4:=ok.p4
 refine ⟨Z,a,sl,b,x,rfl,ht,hx,hs,fun p1 H1 s1 rows1=>?_⟩
 have hf:=fit_at ok hs rows1
 obtain ⟨z1,as,e1,pr⟩:=id rows1
 walk_at "rd"
 refine ⟨_,.inl (SqL.of e1),?_⟩
 have hlen:(as.map V.ref).length=b.fit.length:=by rw [List.length_map,Paired_len pr]
 rw [hlen]
 by_cases h0:b.fit.length=0
 ·rw [if_pos (by omega)]
  refine ⟨sml' (by decide),fun p hp=>q.new s1 hp ?_⟩
  obtain ⟨G,eG⟩:=ask_all hc gok href
  rw [eG,allA_none hs h0]
  rfl
 rw [if_neg (by omega)]
 have hne:0<b.fit.length:=by omega
 rcases hc with rfl | rfl | rfl | rfl | rfl | rfl | rfl | rfl | rfl | rfl | rfl
 ·rw [if_pos (by decide)]
  refine ⟨p1,b.prizes,b.fit,rfl,hf,hp4,hne,fun z hz=>?_⟩
  rw [a12,allA_some hs hne,hz] at q
  exact q.mono s1
 ·obtain ⟨l,rfl⟩:=len1 (hl (by decide))
  have hu:l<b.lots.length:=by simpa [thereB,lotsG] using r1
  rw [if_neg (by decide),if_pos (by decide)]
  refine ⟨_,SqL.of (s1 _ _ e),_,rfl,Z,a,sl,p1,b,x,b.fit,l,rfl,ht.mono s1,s1.seq hx,hxl,hx1,hx2,hf,hne,hu,?_⟩
  rw [a14,if_neg (by simp;omega),allA_some hs hne] at q
  exact q.mono s1
 ·rw [if_neg (by decide),if_neg (by decide),if_neg (by decide),if_neg (by decide),if_neg (by decide),if_neg (by decide),if_neg (by decide)]
  exact ⟨a,sl,p1,gl,b,x,_,g,rfl,ask.mono s1,by decide,hf,hne,q.mono s1⟩
 ·rw [if_neg (by decide),if_neg (by decide),if_neg (by decide),if_neg (by decide),if_neg (by decide),if_neg (by decide),if_neg (by decide)]
  exact ⟨a,sl,p1,gl,b,x,_,g,rfl,ask.mono s1,by decide,hf,hne,q.mono s1⟩
 ·rw [if_neg (by decide),if_neg (by decide),if_neg (by decide),if_neg (by decide),if_neg (by decide),if_neg (by decide),if_neg (by decide)]
  exact ⟨a,sl,p1,gl,b,x,_,g,rfl,ask.mono s1,by decide,hf,hne,q.mono s1⟩
 ·rw [if_neg (by decide),if_neg (by decide),if_pos (by decide)]
  refine ⟨_,.inl (SqL.of e1),Z,a,sl,p1,b,x,b.fit,b.fit.length,by rw [hlen],ht.mono s1,s1.seq hx,hxl,hf,fun p2 H2 s2 e2=>?_⟩
  refine ⟨p2,_,rfl,e2,Nat.le_trans (List.length_filter_le _ _) (by have:=ok.o5;simp;omega),?_⟩
  rw [a18,allA_some hs hne,best_eq (sidesOf b x) b.fit b.lots.length (by unfold sidesOf;simp)] at q
  exact q.mono (s1.trans s2)
 ·rw [if_neg (by decide),if_neg (by decide),if_neg (by decide),if_pos (by decide)]
  refine ⟨Z,a,sl,p1,b,x,b.fit,1,rfl,ht.mono s1,s1.seq hx,hxl,hf,fun p2 H2 s2 e2=>?_⟩
  refine ⟨p2,_,rfl,e2,Nat.le_trans (List.length_filter_le _ _) (by have:=ok.o5;simp;omega),?_⟩
  rw [a19,allA_some hs hne,maybest_eq (sidesOf b x) b.fit b.lots.length (by unfold sidesOf;simp)] at q
  exact q.mono (s1.trans s2)
 ·rw [if_neg (by decide),if_neg (by decide),if_neg (by decide),if_neg (by decide),if_neg (by decide),if_neg (by decide),if_neg (by decide)]
  exact ⟨a,sl,p1,gl,b,x,_,g,rfl,ask.mono s1,by decide,hf,hne,q.mono s1⟩
 ·obtain ⟨s,rfl⟩:=len1 (hl (by decide))
  have hu:s<2 ^ b.n:=by simpa [rightB] using r2
  have h0:b.lots ≠ []:=fun z=>by have:=r3 (.inl rfl);rw [z] at this;simp at this
  rw [if_neg (by decide),if_neg (by decide),if_neg (by decide),if_neg (by decide),if_neg (by decide),if_pos (by decide)]
  refine ⟨sml' (by decide),fun p2 n2=>?_⟩
  have s2:=Same.new (o:=.lst [V.int 0]) n2
  refine ⟨p1,b.fit,rfl,(hf.mono s2).at_,hne,fun nl z ez hz hm=>?_⟩
  refine ⟨_,SqL.of (s2 _ _ (s1 _ _ e)),_,rfl,a,sl,nl,b,x,z,s,rfl,⟨⟨Z,ht.mono (s1.trans s2)⟩,(s1.trans s2).seq hx,SqL.of ez,hxl,⟨hx1,hx2⟩,hf.sub z hm⟩,r3 (.inl rfl),hu,fun p3 H3 s3 e3=>?_⟩
  refine ⟨_,rfl,_,s3 _ _ upd_same,_,e3,sml' (by unfold Krag.fraction;simp),fun p4 n4=>?_⟩
  rw [a21,if_neg (by rw [decide_eq_true_eq];show ¬ 2 ^ b.n<=s;omega),if_neg h0,allA_some hs hne,hz,ktotal_eq] at q
  exact q.new ((s1.trans s2).trans s3) n4 rfl
 ·have h0:b.lots ≠ []:=fun z=>by have:=r3 (.inr rfl);rw [z] at this;simp at this
  rw [if_neg (by decide),if_neg (by decide),if_neg (by decide),if_neg (by decide),if_neg (by decide),if_neg (by decide),if_pos (by decide)]
  refine ⟨sml' (by decide),fun p2 n2=>?_⟩
  have s2:=Same.new (o:=.lst [V.int 0]) n2
  refine ⟨p1,b.fit,rfl,(hf.mono s2).at_,hne,fun nl z ez hz hm=>?_⟩
  refine ⟨a,sl,nl,b,x,z,rfl,⟨⟨Z,ht.mono (s1.trans s2)⟩,(s1.trans s2).seq hx,SqL.of ez,hxl,⟨hx1,hx2⟩,hf.sub z hm⟩,r3 (.inr rfl),fun p3 H3 s3 e3=>?_⟩
  refine ⟨_,rfl,_,s3 _ _ upd_same,_,e3,sml' (by unfold Krag.fraction;simp),fun p4 n4=>?_⟩
  rw [a22,if_neg h0,allA_some hs hne,hz,ktotal_eq] at q
  exact q.new ((s1.trans s2).trans s3) n4 rfl
 ·rw [if_neg (by decide),if_neg (by decide),if_neg (by decide),if_neg (by decide),if_pos (by decide)]
  refine ⟨Z,a,sl,b,x,rfl,ht.mono s1,s1.seq hx,hs,fun p2 H2 s2 e2=>?_⟩
  refine ⟨p2,_,rfl,e2,Nat.le_trans (List.length_filter_le _ _) (by have:=ok.r5;simp;omega),?_⟩
  rw [a24,allA_some hs hne] at q
  exact q.mono (s1.trans s2)
theorem sc62:FnScope ["told","call","given","refusal","shares"] ["told","call","given"] (defScope s_62):=⟨rfl,rfl,rfl,by decide +kernel,rfl,by decide +kernel,by decide +kernel⟩
theorem ok62 (F:Fun K "asked" "asked" s_62 f fd) (T:Txt K mg CT CS)
  (c_56:Callee P w K mg base "refusal_of_given" 3 ["told","call","given"] (spRefusal CT))
  (c_50:Callee P w K mg base "chances_gone_by" 5 ["told"] (spChances CT))
  (c_21:Callee P w K mg base "all_that_fit" 4 ["told","shares"] (spAllThatFit K CT))
  (c_52:Callee P w K mg base "yes_or_no" 1 ["yes"] spYesNo)
  (c_20:Callee P w K mg base "disagreed_with" 3 ["tellings","numbers"] (spDisagreed K))
  (c_17:Callee P w K mg base "rather_gaps" 3 ["told","shares"] (spRatherGaps K CT))
  (c_51:Callee P w K mg base "counted" 1 ["rows"] spCounted)
  (c_14:Callee P w K mg base "prize_shares" 1 ["told","shares","lot"] (spPrizeShares K CT))
  (c_59:Callee P w K mg base "clashes" 6 ["told","shares"] (spClashes K CT))
  (c_61:Callee P w K mg base "asked_of_numbers" 6 ["told","shares","call","given"] (spAskedNum K CT)) :
  FnOk P w K mg base CX0 7 f fd ["told","call","given"] (spAsked K CT):=by
 refine F.ok sc62 (fun vs H Q E h=>by obtain ⟨_,_,_,_,_,_,rfl,_⟩:=h;rfl) (fun cdv A outer s H vs Q E hr h=>?_)
 obtain ⟨Z,a,gl,b,c,g,rfl,ht,e,gok,h10,h26,q⟩:=h
 refine ⟨_,(pss_cons (pS 3 sc62.nd (pe_fn c_56 (rm hr) (pa_cons (pv 0) (pa_cons (pv 1) (pa_cons (pv 2) pa_nil)))))
  (pss_cons (ps_if (pt_cmp (pc_notN (pv 3))) (pss_one (ps_ret (pe_lst (pa_cons (pv 3) pa_nil)))) pss_nil)
  (pss_cons (pS 4 sc62.nd (pe_fn c_50 (rm hr) (pa_cons (pv 0) pa_nil)))
  (pss_cons (ps_if (pt_cmp (pc_isN (pv 4))) (pss_one (ps_ret (pe_lst (pa_cons (pe_gi T.c_NO_CHANCES) pa_nil)))) pss_nil)
  (pss_cons (ps_if (pt_cmpR op_eq (pv 1) (pe_gi T.c_CHANCES) (nomark _)) (pss_one (ps_ret (pe_op op_cat (pe_lst (pa_cons (pe_callB (cr_sum rfl) rfl T.b_sum boot_sum (pa_cons (pv 4) pa_nil)) pa_nil)) (pv 4)))) pss_nil)
  (pss_cons (ps_if (pt_cmpR op_eq (pv 1) (pe_gi T.c_WAYS) (nomark _)) (pss_one (ps_ret (pe_lst (pa_cons (pe_callB call_len_seq rfl T.b_len PySem.boot_len (pa_cons (pe_fn c_21 (rm hr) (pa_cons (pv 0) (pa_cons (pv 4) pa_nil))) pa_nil)) pa_nil)))) pss_nil)
  (pss_cons (ps_if (pt_cmpR op_eq (pv 1) (pe_gi T.c_FITS) (nomark _)) (pss_one (ps_ret (pe_fn c_52 (rm hr) (pa_cons (pe_cmpR op_eq (pe_callB call_len_seq rfl T.b_len PySem.boot_len (pa_cons (pe_fn c_20 (rm hr) (pa_cons (pe_fn c_17 (rm hr) (pa_cons (pv 0) (pa_cons (pv 4) pa_nil))) (pa_cons (pv 2) pa_nil))) pa_nil)) pe_int (nomark _)) pa_nil)))) pss_nil)
  (pss_cons (ps_if (pt_cmpR op_eq (pv 1) (pe_gi T.c_WRONG) (nomark _)) (pss_one (ps_ret (pe_fn c_51 (rm hr) (pa_cons (pe_fn c_20 (rm hr) (pa_cons (pe_fn c_17 (rm hr) (pa_cons (pv 0) (pa_cons (pv 4) pa_nil))) (pa_cons (pv 2) pa_nil))) pa_nil)))) pss_nil)
  (pss_cons (ps_if (pt_cmpR op_eq (pv 1) (pe_gi T.c_SIDE) (nomark _)) (pss_one (ps_ret (pe_fn c_51 (rm hr) (pa_cons (pe_fn c_14 (rm hr) (pa_cons (pv 0) (pa_cons (pv 4) (pa_cons (pe_ix ix_list (pv 2) pe_int (fun _ _=>rfl)) pa_nil)))) pa_nil)))) pss_nil)
  (pss_cons (ps_if (pt_cmpR op_eq (pv 1) (pe_gi T.c_CLASHES) (nomark _)) (pss_one (ps_ret (pe_fn c_59 (rm hr) (pa_cons (pv 0) (pa_cons (pv 4) pa_nil))))) pss_nil)
  (pss_one (ps_ret (pe_fn c_61 (rm hr) (pa_cons (pv 0) (pa_cons (pv 4) (pa_cons (pv 1) (pa_cons (pv 2) pa_nil))))))))))))))))),?_⟩
 walk_at "rd"
 have ok:=ht.ok
 have hl:=gok.2
 refine ⟨Z,a,b,c,gl,g,rfl,ht,e,gok,by omega,fun H1 s1=>?_⟩
 walk_at "rd"
 cases href:refR b c g with
 | some r=>
  rw [ask_ref h10 h26 gok href] at q
  rw [if_pos (show ¬ refV (some r)=V.non from fun z=>V.noConfusion z)]
  exact ⟨sml' (by decide),fun p hp=>q.new s1 hp rfl⟩
 | none=>
  rw [if_neg (show ¬ ¬ refV none=V.non from fun z=>z rfl)]
  obtain ⟨r1,r2,r3⟩:=ref_none href
  refine ⟨Z,a,b,rfl,ht.mono s1,fun hs H2 s2=>?_,fun x hs p2 H2 s2 e2=>?_⟩
  ·walk_at "rd"
   rw [ask_no h10 h26 gok href hs] at q
   exact ⟨sml' (by decide),fun p hp=>q.new (s1.trans s2) hp rfl⟩
  walk_at "rd"
  have s12:=s1.trans s2
  obtain ⟨hxl,hx1,hx2,_⟩:=shares_facts hs
  have hn4:=ok.n4
  have hp4:=ok.p4
  have hr5:=ok.r5
  by_cases c10:c=10
  ·subst c10
   rw [if_pos (by decide)]
   refine ⟨ni x,SqL.of (by rw [ni_map];exact e2),sml' (by decide),fun p3 n3=>?_⟩
   refine ⟨_,upd_same,_,(Same.new n3) _ _ e2,sml' (by rw [nv_length];simp;omega),fun p4 n4=>?_⟩
   rw [a10,chA_some hs] at q
   refine q.new (s12.trans (Same.new n3)) n4 ?_
   show _=V.int _::(ni x).map V.int
   rw [ktotal_eq,ni_sum,ni_map]
   rfl
  rw [if_neg (by omega)]
  by_cases c11:c=11
  ·subst c11
   rw [if_pos (by decide)]
   refine ⟨Z,a,p2,b,x,rfl,ht.mono s12,SqL.of e2,hs,fun p3 H3 s3 rows3=>?_⟩
   obtain ⟨z1,as,e3,pr⟩:=rows3
   walk_at "rd"
   refine ⟨_,.inl (SqL.of e3),sml' (by decide),fun p4 n4=>?_⟩
   rw [a11,chA_some hs] at q
   refine q.new (s12.trans s3) n4 ?_
   rw [List.length_map,Paired_len pr]
   rfl
  rw [if_neg (by omega)]
  by_cases c13:c=13
  ·subst c13
   have hu:numbersB b.prizes g=true:=by simpa [rightB] using r2
   obtain ⟨hg1,hg2⟩:g.length=b.prizes/\∀ v ∈ g,1<=v/\v<=8:=by
    unfold numbersB at hu
    rw [Bool.and_eq_true,beq_iff_eq,List.all_eq_true] at hu
    exact ⟨hu.1,fun v hv=>by have:=hu.2 v hv;rw [Bool.and_eq_true,decide_eq_true_eq,decide_eq_true_eq] at this;exact this⟩
   rw [if_pos (by decide)]
   refine ⟨Z,a,p2,b,x,rfl,ht.mono s12,SqL.of e2,hxl,fun p3 H3 s3 g3=>?_⟩
   walk_at "rd"
   refine ⟨p3,gl,_,g,rfl,g3,by unfold gapsOf;simp;omega,SqL.of (s3 _ _ (s12 _ _ e)),by omega,fun n hn=>by have:=hg2 n hn;omega,fun y hy=>?_,fun l4 H4 s4 e4=>?_⟩
   ·unfold gapsOf at hy
    obtain ⟨r,_,rfl⟩:=List.mem_map.mp hy
    rw [gapsB_length,hg1]
   walk_at "rd"
   refine ⟨_,.inl (SqL.of e4),_,rfl,?_⟩
   rw [a13,if_neg (by simp [hu]),chA_some hs] at q
   have e9:(if decide (((nv (wrongL (gapsOf b x) g)).length:Int)=0)=true then (1:Int) else 0)=(if ((b.told x).all fun t=>t.holds g)=true then 1 else 0):=by
    have:=wrongL_nil b x g
    rw [nv_length]
    by_cases h:(wrongL (gapsOf b x) g).length=0
    ·rw [if_pos (this.mp h),if_pos (by simpa using h)]
    ·rw [if_neg (fun z=>h (this.mpr z)),if_neg (by simpa using h)]
   have q2:=q.mono ((s12.trans s3).trans s4)
   unfold KragNeutral.told Krag.say at q2
   rw [e9]
   exact q2
  rw [if_neg (by omega)]
  by_cases c25:c=25
  ·subst c25
   have hu:numbersB b.prizes g=true:=by simpa [rightB] using r2
   obtain ⟨hg1,hg2⟩:g.length=b.prizes/\∀ v ∈ g,1<=v/\v<=8:=by
    unfold numbersB at hu
    rw [Bool.and_eq_true,beq_iff_eq,List.all_eq_true] at hu
    exact ⟨hu.1,fun v hv=>by have:=hu.2 v hv;rw [Bool.and_eq_true,decide_eq_true_eq,decide_eq_true_eq] at this;exact this⟩
   rw [if_pos (by decide)]
   refine ⟨Z,a,p2,b,x,rfl,ht.mono s12,SqL.of e2,hxl,fun p3 H3 s3 g3=>?_⟩
   walk_at "rd"
   refine ⟨p3,gl,_,g,rfl,g3,by unfold gapsOf;simp;omega,SqL.of (s3 _ _ (s12 _ _ e)),by omega,fun n hn=>by have:=hg2 n hn;omega,fun y hy=>?_,fun l4 H4 s4 e4=>?_⟩
   ·unfold gapsOf at hy
    obtain ⟨r,_,rfl⟩:=List.mem_map.mp hy
    rw [gapsB_length,hg1]
   refine ⟨l4,_,rfl,e4,?_,?_⟩
   ·unfold wrongL
    refine Nat.le_trans (List.length_filter_le _ _) ?_
    unfold gapsOf
    simp
    omega
   rw [a25,if_neg (by simp [hu]),chA_some hs,<-wrongL_told] at q
   exact q.mono ((s12.trans s3).trans s4)
  rw [if_neg (by omega)]
  by_cases c26:c=26
  ·subst c26
   obtain ⟨l,rfl⟩:=len1 (hl (by decide))
   have hu:l<b.lots.length:=by simpa [thereB,lotsG] using r1
   rw [if_pos (by decide)]
   refine ⟨_,SqL.of (s12 _ _ e),_,rfl,Z,a,p2,b,x,l,rfl,ht.mono s12,SqL.of e2,hxl,hu,fun p3 H3 s3 e3=>?_⟩
   refine ⟨p3,_,rfl,e3,by rw [sideOf_length];omega,?_⟩
   rw [a26,if_neg (by simp;omega),chA_some hs] at q
   exact q.mono (s12.trans s3)
  rw [if_neg (by omega)]
  by_cases c23:c=23
  ·subst c23
   rw [if_pos (by decide)]
   refine ⟨Z,a,p2,b,x,rfl,ht.mono s12,SqL.of e2,hs,?_⟩
   rw [a23,chA_some hs] at q
   exact q.mono s12
  rw [if_neg (by omega)]
  exact ⟨a,p2,gl,b,x,c,g,rfl,⟨⟨Z,ht.mono s12⟩,SqL.of e2,hs,s12 _ _ e,gok,href⟩,(((((((dno c (Nat.lt_succ_of_le h26)).resolve_left (Nat.not_lt.mpr h10)).resolve_left c10).resolve_left c11).resolve_left c13).resolve_left c23).resolve_left c25).resolve_left c26,q.mono s12⟩
end
section
open KragNeutral (told)
theorem a27 (b:Krag.Book) (x y:Nat):askB b 27 [x,y]=if (decide (Krae.sets b.n<=x) || decide (Krae.sets b.n<=y))=true then [-22] else [((Krae.own b.n b.worlds.rel x y:Nat):Int)]:=by
 by_cases h:(decide (Krae.sets b.n<=x) || decide (Krae.sets b.n<=y))=true
 ·rw [if_pos h]
  show told (if (decide (Krae.sets b.n<=x) || decide (Krae.sets b.n<=y))=true then Krag.say (-22) else _)=_
  rw [if_pos h]
  rfl
 ·rw [if_neg h]
  show told (if (decide (Krae.sets b.n<=x) || decide (Krae.sets b.n<=y))=true then _ else _)=_
  rw [if_neg h]
  rfl
theorem a28 (b:Krag.Book) (l:Nat):askB b 28 [l]=if decide (b.lots.length<=l)=true then [-2] else told (Krag.list (b.lot l)):=by
 by_cases h:decide (b.lots.length<=l)=true
 ·rw [if_pos h]
  show told (if decide (b.lots.length<=l)=true then Krag.say (-2) else _)=_
  rw [if_pos h]
  rfl
 ·rw [if_neg h]
  show told (if decide (b.lots.length<=l)=true then _ else _)=_
  rw [if_neg h]
  rfl
theorem a29_no (b:Krag.Book) (t:Nat) (h:b.rather.length<=t):askB b 29 [t]=[-2]:=by
 show told (match b.rather[t]? with
   | none=>Krag.say (-2)
   | some r=>{ num:=r.kind,nums:=Krag.ints [r.a,r.b] })=_
 rw [List.getElem?_eq_none h]
 rfl
theorem a29_yes (b:Krag.Book) (t:Nat) (h:t<b.rather.length):askB b 29 [t]=[((b.rather[t]).kind:Int),((b.rather[t]).a:Int),((b.rather[t]).b:Int)]:=by
 show told (match b.rather[t]? with
   | none=>Krag.say (-2)
   | some r=>{ num:=r.kind,nums:=Krag.ints [r.a,r.b] })=_
 rw [List.getElem?_eq_getElem h]
 rfl
def spAsk1 (CT:Addr) (c:Nat):Sp:=fun vs H Q _=>∃ (Z:Addr->Prop) (a:Addr) (b:Krag.Book) (l:Nat),vs=[.ref a,.int (l:Int)]/\ToldAt Z CT H a b/\AnsQ H Q (askB b c [l])
def spAsk2 (CT:Addr) (c:Nat):Sp:=fun vs H Q _=>∃ (Z:Addr->Prop) (a:Addr) (b:Krag.Book) (l m:Nat),vs=[.ref a,.int (l:Int),.int (m:Int)]/\ToldAt Z CT H a b/\AnsQ H Q (askB b c [l,m])
def spRecalled (CT:Addr):Sp:=fun vs H Q _=>∃ (Z:Addr->Prop) (a gl:Addr) (b:Krag.Book) (c:Nat) (g:List Nat),vs=[.ref a,.int (c:Int),.ref gl]/\ToldAt Z CT H a b/\H gl=some (.lst (nv g))/\GOk c g/\27<=c/\c<=29/\AnsQ H Q (askB b c g)
theorem sc84:FnScope ["told","lot"] ["told","lot"] (defScope s_84):=⟨rfl,rfl,rfl,by decide +kernel,rfl,by decide +kernel,by decide +kernel⟩
theorem ok84 (F:Fun K "look" "look" s_84 f fd) (T:Txt K mg CT CS) (c_8:Callee P w K mg base "has_lot" 1 ["told","lot"] (spHasLot CT)):FnOk P w K mg base CX0 2 f fd ["told","lot"] (spAsk1 CT 28):=by
 refine F.ok sc84 (fun vs H Q E h=>by obtain ⟨_,_,_,_,rfl,_⟩:=h;rfl) (fun cdv A outer s H vs Q E hr h=>?_)
 obtain ⟨Z,a,b,l,rfl,ht,q⟩:=h
 refine ⟨_,(pss_cons (ps_if (pt_not (pt_val (pe_fn c_8 (rm hr) (pa_cons (pv 0) (pa_cons (pv 1) pa_nil))))) (pss_one (ps_ret (pe_lst (pa_cons (pe_gi T.c_NONE_SUCH) pa_nil)))) pss_nil)
  (pss_one (ps_ret (pe_op op_cat (pe_lst (pa_cons (pe_worlds T (pv 0)) pa_nil)) (pe_ix ix_list (pe_lots T (pv 0)) (pv 1) (fun _ _=>rfl)))))),?_⟩
 walk_at "rd"
 have ok:=ht.ok
 refine ⟨Z,a,l,b,rfl,ht,_,rfl,?_⟩
 rw [a28] at q
 by_cases h:l<b.lots.length
 ·rw [if_neg (by simpa using h)]
  rw [if_neg (by simp;omega)] at q
  refine ⟨Z,b,ht,sml' (by decide),fun p1 n1=>?_⟩
  have s1:=Same.new (o:=.lst [V.int (b.n:Int)]) n1
  refine ⟨Z,b,_,ht.mono s1,Same.refl _,fun l2 hl2=>?_⟩
  obtain ⟨z,as,e1,pr⟩:=hl2
  obtain ⟨la,g1,g2,g3⟩:=Paired_get pr (List.getElem?_eq_getElem h)
  refine ⟨_,SqL.of e1,_,ref_at g1,_,rfl,_,upd_same,_,g3,?_,fun p2 n2=>?_⟩
  ·have:=(ok.lt _ (List.getElem_mem h)).1
   have:=ok.n4
   refine sml' ?_
   rw [nv_length]
   simp only [List.length_cons,List.length_nil]
   omega
  ·refine q.new s1 n2 ?_
   have e9:b.lot l=b.lots[l]:=by unfold Krag.Book.lot;rw [List.getD_eq_getElem?_getD,List.getElem?_eq_getElem h];rfl
   rw [told_list,List.map_cons,ni_map,e9,(ok.lt _ (List.getElem_mem h)).1]
   rfl
 ·rw [if_pos (by simpa using h)]
  rw [if_pos (by simp;omega)] at q
  exact ⟨sml' (by decide),fun p hp=>q.new (Same.refl _) hp rfl⟩
theorem sc85:FnScope ["told","place"] ["told","place"] (defScope s_85):=⟨rfl,rfl,rfl,by decide +kernel,rfl,by decide +kernel,by decide +kernel⟩
theorem ok85 (F:Fun K "told_rather" "told_rather" s_85 f fd) (T:Txt K mg CT CS):FnOk P w K mg base CX0 1 f fd ["told","place"] (spAsk1 CT 29):=by
 refine F.ok sc85 (fun vs H Q E h=>by obtain ⟨_,_,_,_,rfl,_⟩:=h;rfl) (fun cdv A outer s H vs Q E hr h=>?_)
 obtain ⟨Z,a,b,l,rfl,ht,q⟩:=h
 refine ⟨_,(pss_cons (ps_if (pt_cmpR op_ge (pv 1) (pe_callB call_len_seq rfl T.b_len PySem.boot_len (pa_cons (pe_rather T (pv 0)) pa_nil)) (nomark _)) (pss_one (ps_ret (pe_lst (pa_cons (pe_gi T.c_NONE_SUCH) pa_nil)))) pss_nil)
  (pss_one (ps_ret (pe_callTy call_list_of rfl T.b_list boot_list (pa_cons (pe_ix ix_list (pe_rather T (pv 0)) (pv 1) (fun _ _=>rfl)) pa_nil))))),?_⟩
 walk_at "rd"
 refine ⟨Z,b,_,ht,Same.refl _,fun l1 hl1=>?_⟩
 have hlr:(rathers b).length=b.rather.length:=by unfold rathers;simp
 obtain ⟨z,as,e1,pr⟩:=hl1
 refine ⟨_,.inl (SqL.of e1),?_⟩
 rw [List.length_map,Paired_len pr,hlr]
 by_cases h:b.rather.length<=l
 ·rw [if_pos (by omega)]
  rw [a29_no b l h] at q
  exact ⟨sml' (by decide),fun p hp=>q.new (Same.refl _) hp rfl⟩
 ·rw [if_neg (by omega)]
  have h:l<b.rather.length:=by omega
  rw [a29_yes b l h] at q
  refine ⟨Z,b,_,ht,Same.refl _,fun l2 hl2=>?_⟩
  obtain ⟨z2,as2,e2,pr2⟩:=hl2
  have hr2:(rathers b)[l]?=some ((b.rather[l]).kind,(b.rather[l]).a,(b.rather[l]).b):=by unfold rathers;rw [List.getElem?_map,List.getElem?_eq_getElem h];rfl
  obtain ⟨ta,g1,g2,g3⟩:=Paired_get pr2 hr2
  refine ⟨_,SqL.of e2,_,ref_at g1,_,rfl,_,.inr (SqT.of g3),fun p hp=>q.new (Same.refl _) hp rfl⟩
theorem sc86:FnScope ["told","first","second"] ["told","first","second"] (defScope s_86):=⟨rfl,rfl,rfl,by decide +kernel,rfl,by decide +kernel,by decide +kernel⟩
theorem ok86 (F:Fun K "asked_by_rules" "asked_by_rules" s_86 f fd) (T:Txt K mg CT CS) (c_7:Callee P w K mg base "is_world_set" 1 ["told","chosen"] (spIsWorldSet CT)) (c_83:Callee P w K mg base "by_rules" 5 ["told","first","second"] (spByRules CT)):FnOk P w K mg base CX0 6 f fd ["told","first","second"] (spAsk2 CT 27):=by
 refine F.ok sc86 (fun vs H Q E h=>by obtain ⟨_,_,_,_,_,rfl,_⟩:=h;rfl) (fun cdv A outer s H vs Q E hr h=>?_)
 obtain ⟨Z,a,b,u,v,rfl,ht,q⟩:=h
 refine ⟨_,(pss_cons (ps_if (PW.pt (pw_or (pt_not (pt_val (pe_fn c_7 (rm hr) (pa_cons (pv 0) (pa_cons (pv 1) pa_nil))))) (pw_or1 (pt_not (pt_val (pe_fn c_7 (rm hr) (pa_cons (pv 0) (pa_cons (pv 2) pa_nil)))))))) (pss_one (ps_ret (pe_lst (pa_cons (pe_gi T.c_NOT_RIGHT) pa_nil)))) pss_nil)
  (pss_one (ps_ret (pe_lst (pa_cons (pe_fn c_83 (rm hr) (pa_cons (pv 0) (pa_cons (pv 1) (pa_cons (pv 2) pa_nil)))) pa_nil))))),?_⟩
 walk_at "rd"
 rw [a27] at q
 refine ⟨Z,a,u,b,rfl,ht,_,rfl,?_⟩
 by_cases h:u<2 ^ b.n
 ·rw [if_neg (by simpa using h)]
  refine ⟨Z,a,v,b,rfl,ht,_,rfl,?_⟩
  by_cases h2:v<2 ^ b.n
  ·rw [if_neg (by simpa using h2)]
   rw [if_neg (by rw [Bool.or_eq_true,decide_eq_true_eq,decide_eq_true_eq];show ¬ (2 ^ b.n<=u\/2 ^ b.n<=v);omega)] at q
   refine ⟨Z,a,b,u,v,rfl,ht,h,h2,fun H1 s1=>?_⟩
   walk_at "rd"
   exact ⟨sml' (by decide),fun p hp=>q.new s1 hp rfl⟩
  ·rw [if_pos (by simpa using h2)]
   rw [if_pos (by rw [Bool.or_eq_true,decide_eq_true_eq,decide_eq_true_eq];show 2 ^ b.n<=u\/2 ^ b.n<=v;omega)] at q
   exact ⟨sml' (by decide),fun p hp=>q.new (Same.refl _) hp rfl⟩
 ·rw [if_pos (by simpa using h)]
  rw [if_pos (by rw [Bool.or_eq_true,decide_eq_true_eq,decide_eq_true_eq];show 2 ^ b.n<=u\/2 ^ b.n<=v;omega)] at q
  exact ⟨sml' (by decide),fun p hp=>q.new (Same.refl _) hp rfl⟩
theorem sc87:FnScope ["told","call","given"] ["told","call","given"] (defScope s_87):=⟨rfl,rfl,rfl,by decide +kernel,rfl,by decide +kernel,by decide +kernel⟩
theorem ok87 (F:Fun K "recalled" "recalled" s_87 f fd) (T:Txt K mg CT CS) (c_86:Callee P w K mg base "asked_by_rules" 6 ["told","first","second"] (spAsk2 CT 27)) (c_84:Callee P w K mg base "look" 2 ["told","lot"] (spAsk1 CT 28)) (c_85:Callee P w K mg base "told_rather" 1 ["told","place"] (spAsk1 CT 29)):FnOk P w K mg base CX0 7 f fd ["told","call","given"] (spRecalled CT):=by
 refine F.ok sc87 (fun vs H Q E h=>by obtain ⟨_,_,_,_,_,_,rfl,_⟩:=h;rfl) (fun cdv A outer s H vs Q E hr h=>?_)
 obtain ⟨Z,a,gl,b,c,g,rfl,ht,e,gok,h27,h29,q⟩:=h
 refine ⟨_,(pss_cons (ps_if (pt_cmpR op_eq (pv 1) (pe_gi T.c_RULES) (nomark _)) (pss_one (ps_ret (pe_fn c_86 (rm hr) (pa_cons (pv 0) (pa_cons (pe_ix ix_list (pv 2) pe_int (fun _ _=>rfl)) (pa_cons (pe_ix ix_list (pv 2) pe_int (fun _ _=>rfl)) pa_nil)))))) pss_nil)
  (pss_cons (ps_if (pt_cmpR op_eq (pv 1) (pe_gi T.c_LOOK) (nomark _)) (pss_one (ps_ret (pe_fn c_84 (rm hr) (pa_cons (pv 0) (pa_cons (pe_ix ix_list (pv 2) pe_int (fun _ _=>rfl)) pa_nil))))) pss_nil)
  (pss_one (ps_ret (pe_fn c_85 (rm hr) (pa_cons (pv 0) (pa_cons (pe_ix ix_list (pv 2) pe_int (fun _ _=>rfl)) pa_nil))))))),?_⟩
 walk_at "rd"
 have hl:=gok.2
 have hc:c=27\/c=28\/c=29:=by omega
 rcases hc with rfl | rfl | rfl
 ·obtain ⟨u,v,rfl⟩:=len2 (hl (by decide))
  rw [if_pos (by decide)]
  exact ⟨_,SqL.of e,_,rfl,_,SqL.of e,_,rfl,Z,a,b,u,v,rfl,ht,q⟩
 ·obtain ⟨u,rfl⟩:=len1 (hl (by decide))
  rw [if_neg (by decide),if_pos (by decide)]
  exact ⟨_,SqL.of e,_,rfl,Z,a,b,u,rfl,ht,q⟩
 ·obtain ⟨u,rfl⟩:=len1 (hl (by decide))
  rw [if_neg (by decide),if_neg (by decide)]
  exact ⟨_,SqL.of e,_,rfl,Z,a,b,u,rfl,ht,q⟩
end
section
open KragNeutral (told)
def ZOk (Z:Addr->Prop) (H:Hp):Prop:=∀ z,Z z->H z ≠ none
theorem ZOk.not {Z:Addr->Prop} {H:Hp} (h:ZOk Z H) {p:Addr} (n:H p=none):¬ Z p:=fun z=>h p z n
theorem ZOk.mono {Z:Addr->Prop} {H H':Hp} (h:ZOk Z H) (s:Same H H'):ZOk Z H':=fun z hz e=>h z hz (none_back s e)
def spToldInit (CT:Addr):Sp:=fun vs H Q _=>∃ (x dx:Addr) (n p:Nat) (l1 l2 l3:Addr),vs=[.ref x,.int (n:Int),.int (p:Int),.ref l1,.ref l2,.ref l3]/\H x=some (.ins CT dx [])/\Q .non (upd H x (.ins CT dx (toldF n p l1 l2 l3)))
abbrev toldPs:List Str:=["self","worlds","prizes","likelier","lots","rather"]
def bookLike (b:Krag.Book) (l:List Krae.Told):Krag.Book:={ b with worlds:={ b.worlds with told:=l } }
def bookLots (b:Krag.Book) (l:List (List Nat)):Krag.Book:={ b with lots:=l }
def bookRather (b:Krag.Book) (l:List Krag.Rather):Krag.Book:={ b with rather:=l }
def NewQ (Z:Addr->Prop) (CT:Addr) (H:Hp) (Q:VK) (b:Krag.Book):Prop:=∀ p H',H p=none->Same H H'->ToldAt Z CT H' p b->Q (.ref p) H'
def spWithLike (CT:Addr):Sp:=fun vs H Q _=>∃ (Z:Addr->Prop) (a l:Addr) (b:Krag.Book) (ts:List Krae.Told),vs=[.ref a,.ref l]/\ToldAt Z CT H a b/\ZOk Z H/\TripsAt Z H l (likes (bookLike b ts))/\BookOk (bookLike b ts)/\NewQ Z CT H Q (bookLike b ts)
def spWithLots (CT:Addr):Sp:=fun vs H Q _=>∃ (Z:Addr->Prop) (a l:Addr) (b:Krag.Book) (ts:List (List Nat)),vs=[.ref a,.ref l]/\ToldAt Z CT H a b/\ZOk Z H/\RowsAt Z H l ts/\∀ p H',H p=none->Same H H'->¬ Z p->(∃ dx l1 l3,H' p=some (.ins CT dx (toldF b.n b.prizes l1 l l3))/\TripsAt Z H' l1 (likes b)/\RowsAt Z H' l ts/\TripsAt Z H' l3 (rathers b))->Q (.ref p) H'
theorem ins_new {CT:Addr} {H H':Hp} {x dx:Addr} {o:HO} (hx:H x=none) (hd:H dx=none) (h:H'=upd (upd (upd H dx (.own x)) x (.ins CT dx [])) x o):Same H H'/\H' x=some o:=by
 subst h
 refine ⟨fun b u e=>?_,upd_same⟩
 rw [upd_ne (ne_of_none e hx),upd_ne (ne_of_none e hx),upd_ne (ne_of_none e hd)]
 exact e
theorem plS {f:Str} {v:V}:∀ {fs:List (Str × V)} {k:Nat},fs.length<=k->(putF f v fs).length<=k+1
 | [],k,_=>Nat.succ_le_succ (Nat.zero_le k)
 | (g,x)::r,k,h=>by
  unfold putF
  split
  ·exact Nat.le_trans h (Nat.le_succ k)
  ·cases k with
   | zero=>cases h
   | succ k=>exact Nat.succ_le_succ (plS (fs:=r) (k:=k) (Nat.le_of_succ_le_succ h))
def spWithRather (CT:Addr):Sp:=fun vs H Q _=>∃ (Z:Addr->Prop) (a dx l1 l2 l3 l:Addr) (b:Krag.Book),vs=[.ref a,.ref l]/\H a=some (.ins CT dx (toldF b.n b.prizes l1 l2 l3))/\ZOk Z H/\TripsAt Z H l1 (likes b)/\RowsAt Z H l2 b.lots/\TripsAt Z H l (rathers b)/\BookOk b/\NewQ Z CT H Q b
theorem sc2:FnScope ["self","worlds","prizes","likelier","lots","rather"] ["self","worlds","prizes","likelier","lots","rather"] (defScope s_2):=⟨rfl,rfl,rfl,by decide +kernel,rfl,by decide +kernel,by decide +kernel⟩
theorem ok_Told_init (F:Fun K "__init__" "Told.__init__" s_2 f fd) (T:Txt K mg CT CS):FnOk P w K mg base CX0 1 f fd toldPs (spToldInit CT):=by
 refine F.ok sc2 (fun vs H Q E h=>by obtain ⟨_,_,_,_,_,_,_,rfl,_⟩:=h;rfl) (fun cdv A outer s H vs Q E hr h=>?_)
 obtain ⟨x,dx,n,p,l1,l2,l3,rfl,e,q⟩:=h
 refine ⟨_,(pss_cons (ps_fld (pv 0) (pv 1) rfl)
  (pss_cons (ps_fld (pv 0) (pv 2) rfl)
  (pss_cons (ps_fld (pv 0) (pv 3) rfl)
  (pss_cons (ps_fld (pv 0) (pv 4) rfl)
  (pss_one (ps_fld (pv 0) (pv 5) rfl)))))),?_⟩
 walk_at "rd"
 have d1:(putF "worlds" (V.int n) []).length<=1:=plS (Nat.le_refl _)
 have d2:(putF "prizes" (V.int p) (putF "worlds" (V.int n) [])).length<=2:=plS d1
 have d3:(putF "likelier" (V.ref l1) (putF "prizes" (V.int p) (putF "worlds" (V.int n) []))).length<=3:=plS d2
 have d4:(putF "lots" (V.ref l2) (putF "likelier" (V.ref l1) (putF "prizes" (V.int p) (putF "worlds" (V.int n) [])))).length<=4:=plS d3
 refine ⟨CT,dx,_,e,T.clT,T.nW,by decide,CT,dx,_,upd_same,T.clT,T.nP,Nat.lt_of_le_of_lt d1 (by decide),CT,dx,_,upd_same,T.clT,T.nK,Nat.lt_of_le_of_lt d2 (by decide),CT,dx,_,upd_same,T.clT,T.nL,Nat.lt_of_le_of_lt d3 (by decide),CT,dx,_,upd_same,T.clT,T.nR,Nat.lt_of_le_of_lt d4 (by decide),?_⟩
 rw [upd_upd,upd_upd,upd_upd,upd_upd]
 exact q
theorem sc3:FnScope ["told","likelier"] ["told","likelier"] (defScope s_3):=⟨rfl,rfl,rfl,by decide +kernel,rfl,by decide +kernel,by decide +kernel⟩
theorem ok3 (F:Fun K "with_likelier" "with_likelier" s_3 f fd) (T:Txt K mg CT CS) (mkT:Maker P w K mg base CT "Told" 1 toldPs (spToldInit CT)):FnOk P w K mg base CX0 3 f fd ["told","likelier"] (spWithLike CT):=by
 refine F.ok sc3 (fun vs H Q E h=>by obtain ⟨_,_,_,_,_,rfl,_⟩:=h;rfl) (fun cdv A outer s H vs Q E hr h=>?_)
 obtain ⟨Z,a,l,b,ts,rfl,ht,hz,htr,ok,q⟩:=h
 refine ⟨_,(pss_one (ps_ret (pe_mk mkT (rm hr) (pa_cons (pe_worlds T (pv 0)) (pa_cons (pe_prizes T (pv 0)) (pa_cons (pv 1) (pa_cons (pe_lots T (pv 0)) (pa_cons (pe_rather T (pv 0)) pa_nil)))))))),?_⟩
 walk_at "rd"
 refine ⟨Z,b,ht,Z,b,ht,Z,b,H,ht,Same.refl _,fun l2 h2=>⟨Z,b,H,ht,Same.refl _,fun l3 h3 x dx nx nd hne=>?_⟩⟩
 refine ⟨x,dx,b.n,b.prizes,l,l2,l3,rfl,upd_same,rfl,?_⟩
 obtain ⟨s1,e1⟩:=ins_new (CT:=CT) nx nd rfl
 exact q x _ nx s1 ⟨hz.not nx,ok,dx,l,l2,l3,e1,htr.mono (s1.z Z),h2.mono (s1.z Z),h3.mono (s1.z Z)⟩
theorem sc4:FnScope ["told","lots"] ["told","lots"] (defScope s_4):=⟨rfl,rfl,rfl,by decide +kernel,rfl,by decide +kernel,by decide +kernel⟩
theorem ok4 (F:Fun K "with_lots" "with_lots" s_4 f fd) (T:Txt K mg CT CS) (mkT:Maker P w K mg base CT "Told" 1 toldPs (spToldInit CT)):FnOk P w K mg base CX0 3 f fd ["told","lots"] (spWithLots CT):=by
 refine F.ok sc4 (fun vs H Q E h=>by obtain ⟨_,_,_,_,_,rfl,_⟩:=h;rfl) (fun cdv A outer s H vs Q E hr h=>?_)
 obtain ⟨Z,a,l,b,ts,rfl,ht,hz,htr,q⟩:=h
 refine ⟨_,(pss_one (ps_ret (pe_mk mkT (rm hr) (pa_cons (pe_worlds T (pv 0)) (pa_cons (pe_prizes T (pv 0)) (pa_cons (pe_likelier T (pv 0)) (pa_cons (pv 1) (pa_cons (pe_rather T (pv 0)) pa_nil)))))))),?_⟩
 walk_at "rd"
 refine ⟨Z,b,ht,Z,b,ht,Z,b,H,ht,Same.refl _,fun l1 h1=>⟨Z,b,H,ht,Same.refl _,fun l3 h3 x dx nx nd hne=>?_⟩⟩
 refine ⟨x,dx,b.n,b.prizes,l1,l,l3,rfl,upd_same,rfl,?_⟩
 obtain ⟨s1,e1⟩:=ins_new (CT:=CT) nx nd rfl
 exact q x _ nx s1 (hz.not nx) ⟨dx,l1,l3,e1,h1.mono (s1.z Z),htr.mono (s1.z Z),h3.mono (s1.z Z)⟩
theorem sc5:FnScope ["told","rather"] ["told","rather"] (defScope s_5):=⟨rfl,rfl,rfl,by decide +kernel,rfl,by decide +kernel,by decide +kernel⟩
theorem ok5 (F:Fun K "with_rather" "with_rather" s_5 f fd) (T:Txt K mg CT CS) (mkT:Maker P w K mg base CT "Told" 1 toldPs (spToldInit CT)):FnOk P w K mg base CX0 3 f fd ["told","rather"] (spWithRather CT):=by
 refine F.ok sc5 (fun vs H Q E h=>by obtain ⟨_,_,_,_,_,_,_,_,rfl,_⟩:=h;rfl) (fun cdv A outer s H vs Q E hr h=>?_)
 obtain ⟨Z,a,dx0,l1,l2,l3,l,b,rfl,e,hz,h1,h2,h3,ok,q⟩:=h
 refine ⟨_,(pss_one (ps_ret (pe_mk mkT (rm hr) (pa_cons (pe_fld (pv 0) rfl) (pa_cons (pe_fld (pv 0) rfl) (pa_cons (pe_fld (pv 0) rfl) (pa_cons (pe_fld (pv 0) rfl) (pa_cons (pv 1) pa_nil)))))))),?_⟩
 walk_at "rd"
 refine ⟨CT,dx0,_,e,T.clT,T.nW,_,rfl,CT,dx0,_,e,T.clT,T.nP,_,rfl,CT,dx0,_,e,T.clT,T.nK,_,rfl,CT,dx0,_,e,T.clT,T.nL,_,rfl,fun x dx nx nd hne=>?_⟩
 refine ⟨x,dx,b.n,b.prizes,l1,l2,l,rfl,upd_same,rfl,?_⟩
 obtain ⟨s1,e1⟩:=ins_new (CT:=CT) nx nd rfl
 exact q x _ nx s1 ⟨hz.not nx,ok,dx,l1,l2,l,e1,h1.mono (s1.z Z),h2.mono (s1.z Z),h3.mono (s1.z Z)⟩
end
section
open KragNeutral (told)
def bad1 (b:Krag.Book) (s:Nat):Bool:=decide (Krae.sets b.n<=s)
def no1 (b:Krag.Book) (l:Nat):Bool:=decide (b.lots.length<=l)
def lotB (b:Krag.Book) (l:List Nat):Bool:=l.length==b.n && l.all fun p=>decide (p<b.prizes)
def chLike (b:Krag.Book) (k x y:Nat):Option Krag.Book × Krag.Ans:=if 2<k\/bad1 b x=true\/bad1 b y=true then (none,Krag.say (-22)) else if Krag.mostLikely<=b.worlds.told.length then (none,Krag.say (-28)) else (some (bookLike b (b.worlds.told++[⟨x,y,k⟩])),Krag.say b.worlds.told.length)
def chUnlike (b:Krag.Book) (t:Nat):Option Krag.Book × Krag.Ans:=if b.worlds.told.length<=t then (none,Krag.say (-2)) else (some (bookLike b (b.worlds.told.eraseIdx t)),Krag.say (b.worlds.told.eraseIdx t).length)
def chLot (b:Krag.Book) (l:List Nat):Option Krag.Book × Krag.Ans:=if lotB b l=false then (none,Krag.say (-22)) else if Krag.mostLots<=b.lots.length then (none,Krag.say (-28)) else (some (bookLots b (b.lots++[l])),Krag.say b.lots.length)
def chUnlot (b:Krag.Book) (l:Nat):Option Krag.Book × Krag.Ans:=if no1 b l then (none,Krag.say (-2)) else (some (b.unlot l),{ num:=(b.unlot l).lots.length,nums:=Krag.ints [(b.unlot l).rather.length] })
def chPrize (b:Krag.Book) (l i p:Nat):Option Krag.Book × Krag.Ans:=if no1 b l || (decide (b.n<=i) || decide (b.prizes<=p)) then (none,Krag.say (-2)) else (some (bookLots b (b.lots.set l ((b.lot l).set i p))),Krag.say ((b.lot l).getD i 0))
def chRather (b:Krag.Book) (k x y:Nat):Option Krag.Book × Krag.Ans:=if no1 b x || no1 b y then (none,Krag.say (-2)) else if 2<k then (none,Krag.say (-22)) else if Krag.mostRather<=b.rather.length then (none,Krag.say (-28)) else (some (bookRather b (b.rather++[⟨x,y,k⟩])),Krag.say b.rather.length)
def chUnrather (b:Krag.Book) (t:Nat):Option Krag.Book × Krag.Ans:=if b.rather.length<=t then (none,Krag.say (-2)) else (some (bookRather b (b.rather.eraseIdx t)),Krag.say (b.rather.eraseIdx t).length)
def chB (b:Krag.Book) (c:Nat) (g:List Nat):Option Krag.Book × Krag.Ans:=match c with
 | 1=>chLike b (g.getD 0 0) (g.getD 1 0) (g.getD 2 0)
 | 2=>chUnlike b (g.getD 0 0)
 | 3=>chLot b g
 | 4=>chUnlot b (g.getD 0 0)
 | 5=>chPrize b (g.getD 0 0) (g.getD 1 0) (g.getD 2 0)
 | 6=>chRather b (g.getD 0 0) (g.getD 1 0) (g.getD 2 0)
 | _=>chUnrather b (g.getD 0 0)
def chW (w:Krag.World) (r:Option Krag.Book × Krag.Ans):Krag.World × Krag.Ans:=match r.1 with
 | none=>(w,r.2)
 | some b=>w.to b r.2
theorem does_ch (w:Krag.World) {c:Nat} (h1:1<=c) (h7:c<=7) (g:List Nat):w.does (callOf c g)=chW w (chB w.p c g):=by
 have hc:c=1\/c=2\/c=3\/c=4\/c=5\/c=6\/c=7:=by omega
 rcases hc with rfl | rfl | rfl | rfl | rfl | rfl | rfl
 ·show _=chW w (chLike _ _ _ _)
  unfold chLike
  by_cases h:2<g.getD 0 0\/bad1 w.p (g.getD 1 0)=true\/bad1 w.p (g.getD 2 0)=true
  ·rw [if_pos h];exact if_pos h
  ·rw [if_neg h]
   refine (if_neg h).trans ?_
   by_cases h2:Krag.mostLikely<=w.p.worlds.told.length
   ·rw [if_pos h2,if_pos h2];rfl
   ·rw [if_neg h2,if_neg h2];rfl
 ·show _=chW w (chUnlike _ _)
  unfold chUnlike
  by_cases h:w.p.worlds.told.length<=g.getD 0 0
  ·rw [if_pos h];exact if_pos h
  ·rw [if_neg h];exact if_neg h
 ·show _=chW w (chLot _ _)
  unfold chLot
  by_cases h:lotB w.p g=false
  ·rw [if_pos h];exact if_pos h
  ·rw [if_neg h]
   refine (if_neg h).trans ?_
   by_cases h2:Krag.mostLots<=w.p.lots.length
   ·rw [if_pos h2,if_pos h2];rfl
   ·rw [if_neg h2,if_neg h2];rfl
 ·show _=chW w (chUnlot _ _)
  unfold chUnlot
  by_cases h:no1 w.p (g.getD 0 0)=true
  ·rw [if_pos h];exact if_pos h
  ·rw [if_neg h];exact if_neg h
 ·show _=chW w (chPrize _ _ _ _)
  unfold chPrize
  by_cases h:(no1 w.p (g.getD 0 0) || (decide (w.p.n<=g.getD 1 0) || decide (w.p.prizes<=g.getD 2 0)))=true
  ·rw [if_pos h];exact if_pos h
  ·rw [if_neg h];exact if_neg h
 ·show _=chW w (chRather _ _ _ _)
  unfold chRather
  by_cases h:(no1 w.p (g.getD 1 0) || no1 w.p (g.getD 2 0))=true
  ·rw [if_pos h];exact if_pos h
  ·rw [if_neg h]
   refine (if_neg h).trans ?_
   by_cases h2:2<g.getD 0 0
   ·rw [if_pos h2,if_pos h2];rfl
   ·rw [if_neg h2,if_neg h2]
    by_cases h3:Krag.mostRather<=w.p.rather.length
    ·rw [if_pos h3,if_pos h3];rfl
    ·rw [if_neg h3,if_neg h3];rfl
 ·show _=chW w (chUnrather _ _)
  unfold chUnrather
  by_cases h:w.p.rather.length<=g.getD 0 0
  ·rw [if_pos h];exact if_pos h
  ·rw [if_neg h];exact if_neg h
def ChQ (Z:Addr->Prop) (CT:Addr) (H:Hp) (Q:VK) (r:Option Krag.Book × Krag.Ans):Prop:=∀ p q tv H',Same H H'->H q=none->H' p=some (.tup [.ref q,tv])->H' q=some (.lst ((told r.2).map V.int))->(match r.1 with
 | none=>tv=.non
 | some b=>∃ a,tv=.ref a/\ToldAt Z CT H' a b)->Q (.ref p) H'
def RefQ (H:Hp) (Q:VK) (n:Int):Prop:=∀ p q H',Same H H'->H q=none->H' p=some (.tup [.ref q,.non])->H' q=some (.lst [.int n])->Q (.ref p) H'
theorem ChQ.ref {Z:Addr->Prop} {CT:Addr} {H:Hp} {Q:VK} {n:Int} (h:ChQ Z CT H Q (none,Krag.say n)):RefQ H Q n:=fun p q H' s nq e1 e2=>h p q .non H' s nq e1 e2 rfl
theorem RefQ.mono {H H':Hp} {Q:VK} {n:Int} (h:RefQ H Q n) (s:Same H H'):RefQ H' Q n:=fun p q H2 s2 nq e1 e2=>h p q H2 (s.trans s2) (none_back s nq) e1 e2
def spRefused:Sp:=fun vs H Q _=>∃ (n:Int),vs=[.int n]/\RefQ H Q n
def spWithout:Sp:=fun vs H Q _=>∃ (l:Addr) (xs:List V) (i:Nat),vs=[.ref l,.int (i:Int)]/\H l=some (.lst xs)/\xs.length<=1000/\∀ p H',H p=none->Same H H'->H' p=some (.lst (xs.eraseIdx i))->Q (.ref p) H'
def spReplaced:Sp:=fun vs H Q _=>∃ (l:Addr) (xs:List V) (i:Nat) (v:V),vs=[.ref l,.int (i:Int),v]/\H l=some (.lst xs)/\i<xs.length/\xs.length<=1000/\∀ p H',H p=none->Same H H'->H' p=some (.lst (xs.set i v))->Q (.ref p) H'
def spPrizeEach (CT:Addr):Sp:=fun vs H Q _=>∃ (Z:Addr->Prop) (a gl:Addr) (b:Krag.Book) (g:List Nat),vs=[.ref a,.ref gl]/\ToldAt Z CT H a b/\H gl=some (.lst (nv g))/\g.length<=255/\∀ H',Same H H'->Q (.bl (lotB b g)) H'
def up1 (l gone:Nat):Nat:=if gone<l then l - 1 else l
def spMovedUp:Sp:=fun vs H Q _=>∃ (l gone:Nat),vs=[.int (l:Int),.int (gone:Int)]/\Q (.int (up1 l gone:Nat)) H
def keepT (gone:Nat) (t:Trip):Bool:=t.2.1 != gone && t.2.2 != gone
def upT (gone:Nat) (t:Trip):Trip:=(t.1,up1 t.2.1 gone,up1 t.2.2 gone)
def withoutT (gone:Nat) (ts:List Trip):List Trip:=(ts.filter (keepT gone)).map (upT gone)
def spRatherWithout:Sp:=fun vs H Q _=>∃ (Z:Addr->Prop) (l:Addr) (ts:List Trip) (gone:Nat),vs=[.ref l,.int (gone:Int)]/\TripsAt Z H l ts/\ts.length<=100/\∀ p as H',H p=none->Same H H'->H' p=some (.lst (as.map V.ref))->Paired (fun a t=>H a=none/\H' a=some (.tup (trv t))) as (withoutT gone ts)->Q (.ref p) H'
theorem sc63:FnScope ["number"] ["number"] (defScope s_63):=⟨rfl,rfl,rfl,by decide +kernel,rfl,by decide +kernel,by decide +kernel⟩
theorem ok63 (F:Fun K "refused" "refused" s_63 f fd) (T:Txt K mg CT CS):FnOk P w K mg base CX0 1 f fd ["number"] spRefused:=by
 refine F.ok sc63 (fun vs H Q E h=>by obtain ⟨_,rfl,_⟩:=h;rfl) (fun cdv A outer s H vs Q E hr h=>?_)
 obtain ⟨n,rfl,q⟩:=h
 refine ⟨_,(pss_one (ps_ret (pe_tup (pa_cons (pe_lst (pa_cons (pv 0) pa_nil)) (pa_cons pe_non pa_nil))))),?_⟩
 walk_at "rd"
 refine ⟨sml' (by decide),fun p hp=>⟨sml' (by decide),fun p2 hp2=>?_⟩⟩
 exact q p2 p _ ((Same.new hp).trans (Same.new hp2)) hp upd_same ((Same.new hp2) _ _ upd_same)
theorem sc64:FnScope ["rows","place"] ["rows","place"] (defScope s_64):=⟨rfl,rfl,rfl,by decide +kernel,rfl,by decide +kernel,by decide +kernel⟩
theorem ok64 (F:Fun K "without" "without" s_64 f fd) (T:Txt K mg CT CS):FnOk P w K mg base CX0 1 f fd ["rows","place"] spWithout:=by
 refine F.ok sc64 (fun vs H Q E h=>by obtain ⟨_,_,_,rfl,_⟩:=h;rfl) (fun cdv A outer s H vs Q E hr h=>?_)
 obtain ⟨l,xs,i,rfl,e,hx,q⟩:=h
 refine ⟨_,(pss_one (ps_ret (pe_op op_cat (pe_slice sl_list (pv 0) po_none (po_some (pv 1))) (pe_slice sl_list (pv 0) (po_some (pe_op op_add (pv 1) pe_int)) po_none)))),?_⟩
 walk_at "rd"
 refine ⟨_,SqL.of e,fun p1 n1=>?_⟩
 refine ⟨_,SqL.of ((Same.new n1) _ _ e),fun p2 n2=>?_⟩
 refine ⟨_,(Same.new n2) _ _ upd_same,_,upd_same,?_,fun p3 n3=>?_⟩
 ·have:=cutV_length xs none (some (i:Int))
  have:=cutV_length xs (some ((i:Int)+1)) none
  exact sml' (by omega)
 ·refine q p3 _ (none_back ((Same.new n1).trans (Same.new n2)) n3) (((Same.new n1).trans (Same.new n2)).trans (Same.new n3)) ?_
  rw [upd_same,cut_to,show (i:Int)+1=((i+1:Nat):Int) by omega,cut_from,without_eq]
theorem sc65:FnScope ["rows","place","value"] ["rows","place","value"] (defScope s_65):=⟨rfl,rfl,rfl,by decide +kernel,rfl,by decide +kernel,by decide +kernel⟩
theorem ok65 (F:Fun K "replaced" "replaced" s_65 f fd) (T:Txt K mg CT CS):FnOk P w K mg base CX0 1 f fd ["rows","place","value"] spReplaced:=by
 refine F.ok sc65 (fun vs H Q E h=>by obtain ⟨_,_,_,_,rfl,_⟩:=h;rfl) (fun cdv A outer s H vs Q E hr h=>?_)
 obtain ⟨l,xs,i,v,rfl,e,hi,hx,q⟩:=h
 refine ⟨_,(pss_one (ps_ret (pe_op op_cat (pe_op op_cat (pe_slice sl_list (pv 0) po_none (po_some (pv 1))) (pe_lst (pa_cons (pv 2) pa_nil))) (pe_slice sl_list (pv 0) (po_some (pe_op op_add (pv 1) pe_int)) po_none)))),?_⟩
 walk_at "rd"
 refine ⟨_,SqL.of e,fun p1 n1=>⟨sml' (by decide),fun p2 n2=>?_⟩⟩
 have s12:=(Same.new (o:=.lst (cutV xs none (some (i:Int)))) n1).trans (Same.new (o:=.lst [v]) n2)
 refine ⟨_,(Same.new n2) _ _ upd_same,_,upd_same,?_,fun p3 n3=>?_⟩
 ·have:=cutV_length xs none (some (i:Int))
  exact sml' (by simp only [List.length_cons,List.length_nil];omega)
 have s3:=s12.trans (Same.new (o:=.lst (cutV xs none (some (i:Int))++[v])) n3)
 refine ⟨_,SqL.of (s3 _ _ e),fun p4 n4=>?_⟩
 refine ⟨_,(Same.new n4) _ _ upd_same,_,upd_same,?_,fun p5 n5=>?_⟩
 ·have:=cutV_length xs none (some (i:Int))
  have:=cutV_length xs (some ((i:Int)+1)) none
  exact sml' (by simp only [List.length_append,List.length_cons,List.length_nil];omega)
 ·have s4:=s3.trans (Same.new (o:=.lst (cutV xs (some ((i:Int)+1)) none)) n4)
  refine q p5 _ (none_back s4 n5) (s4.trans (Same.new n5)) ?_
  rw [upd_same,cut_to,show (i:Int)+1=((i+1:Nat):Int) by omega,cut_from,replaced_eq _ _ _ hi]
theorem sc68:FnScope ["told","prizes","prize"] ["told","prizes"] (defScope s_68):=⟨rfl,rfl,rfl,by decide +kernel,rfl,by decide +kernel,by decide +kernel⟩
theorem ok68 (F:Fun K "is_prize_for_each_world" "is_prize_for_each_world" s_68 f fd) (T:Txt K mg CT CS) (c_10:Callee P w K mg base "has_prize" 1 ["told","prize"] (spHasPrize CT)):FnOk P w K mg base CX0 2 f fd ["told","prizes"] (spPrizeEach CT):=by
 refine F.ok sc68 (fun vs H Q E h=>by obtain ⟨_,_,_,_,_,rfl,_⟩:=h;rfl) (fun cdv A outer s H vs Q E hr h=>?_)
 obtain ⟨Z,a,gl,b,g,rfl,ht,e,hg,q⟩:=h
 refine ⟨_,(pss_one (ps_ret (pe_and (pe_cmpR op_eq (pe_callB call_len_seq rfl T.b_len PySem.boot_len (pa_cons (pv 1) pa_nil)) (pe_worlds T (pv 0)) (nomark _)) (pe_one (pe_callB (cr_all rfl) rfl T.b_all boot_all (pa_cons (pe_lc (own:=[("prize",2)]) rfl sc68.nd (pi_list (pv 1)) (blkOk_by (N:=["told","prizes","prize"]) (sc:=defScope s_68) (by decide +kernel)) (fun _ _ _ _ _=>(pN 2 sc68.nd)) (fun _ _ _ _ _=>pts_nil) (fun _ _ _ _ _=>(pe_fn c_10 (rm hr) (pa_cons (pv 0) (pa_cons (pv 2) pa_nil))))) pa_nil)))))),?_⟩
 walk_at "rd"
 refine ⟨_,.inl (SqL.of e),Z,b,ht,?_⟩
 rw [nv_length]
 unfold lotB at q
 by_cases h1:g.length=b.n
 ·rw [if_pos (by omega)]
  refine ⟨⟨_,SqL.of e⟩,fun D hD=>comp_of (yl_list (SqL.of e)) hD (fun i=>((g.take i).map fun v=>decide (v<b.prizes)).map V.bl) rfl (fun i hi=>?_) (fun i H v a y=>?_) (fun H s e=>?_)⟩
  ·rw [nv_length] at hi
   exact sml (by simp;omega)
  ·walk_at "rd"
   obtain ⟨n,hn',rfl⟩:=nv_get y
   walk_at "rd"
   refine ⟨Z,_,n,b,rfl,ht.mono a.same,a.yes (Same.refl _) ?_⟩
   rw [take_snoc hn'];simp
  ·walk_at "rd"
   rw [nv_length,List.take_length] at e
   refine ⟨_,SqL.of e,?_⟩
   have:=q H s
   rw [List.all_map]
   rw [show (g.length==b.n)=true by simp [h1],Bool.true_and] at this
   exact this
 ·rw [if_neg (by omega)]
  have:=q H (Same.refl _)
  rw [show (g.length==b.n)=false by simp [h1],Bool.false_and] at this
  exact this
theorem sc70:FnScope ["lot","gone"] ["lot","gone"] (defScope s_70):=⟨rfl,rfl,rfl,by decide +kernel,rfl,by decide +kernel,by decide +kernel⟩
theorem ok70 (F:Fun K "moved_up" "moved_up" s_70 f fd) (T:Txt K mg CT CS):FnOk P w K mg base CX0 1 f fd ["lot","gone"] spMovedUp:=by
 refine F.ok sc70 (fun vs H Q E h=>by obtain ⟨_,_,rfl,_⟩:=h;rfl) (fun cdv A outer s H vs Q E hr h=>?_)
 obtain ⟨l,gone,rfl,q⟩:=h
 refine ⟨_,(pss_one (ps_ret (pe_ifExp (pt_cmpR op_gt (pv 0) (pv 1) (nomark _)) (pe_op op_sub (pv 0) pe_int) (pv 0)))),?_⟩
 walk_at "rd"
 unfold up1 at q
 by_cases h:gone<l
 ·rw [if_pos (by omega)]
  rw [if_pos h] at q
  rw [show ((l - 1:Nat):Int)=(l:Int) - 1 by omega] at q
  exact q
 ·rw [if_neg (by omega)]
  rw [if_neg h] at q
  exact q
theorem sc71:FnScope ["rather","gone","left","kind","first","second"] ["rather","gone"] (defScope s_71):=⟨rfl,rfl,rfl,by decide +kernel,rfl,by decide +kernel,by decide +kernel⟩
theorem ok71 (F:Fun K "rather_without_lot" "rather_without_lot" s_71 f fd) (T:Txt K mg CT CS) (c_70:Callee P w K mg base "moved_up" 1 ["lot","gone"] spMovedUp):FnOk P w K mg base CX0 2 f fd ["rather","gone"] spRatherWithout:=by
 refine F.ok sc71 (fun vs H Q E h=>by obtain ⟨_,_,_,_,rfl,_⟩:=h;rfl) (fun cdv A outer s H vs Q E hr h=>?_)
 obtain ⟨Z,l,ts,gone,rfl,htr,hts,q⟩:=h
 refine ⟨_,(pss_cons (pS 2 sc71.nd (pe_lst pa_nil))
  (pss_cons (ps_for PassesOwn.never rfl (pi_list (pv 0)) (pg_tup (n:=3) rfl (pgs_cons (pN 3 sc71.nd) (pgs_cons (pN 4 sc71.nd) (pgs_cons (pN 5 sc71.nd) pgs_nil))))
   (pss_one (ps_if (PW.pt (pw_and (pt_cmpR op_ne (pv 4) (pv 1) (nomark _)) (pw_and1 (pt_cmpR op_ne (pv 5) (pv 1) (nomark _))))) (pss_one (ps_expr (pe_bm PySem.F.plainAttrs_list PySem.F.slot_list_append PySem.F.type_list_append mt_append (pv 2) (pa_cons (pe_tup (pa_cons (pv 3) (pa_cons (pe_fn c_70 (rm hr) (pa_cons (pv 4) (pa_cons (pv 1) pa_nil))) (pa_cons (pe_fn c_70 (rm hr) (pa_cons (pv 5) (pa_cons (pv 1) pa_nil))) pa_nil)))) pa_nil)))) pss_nil)))
  (pss_one (ps_ret (pv 2))))),?_⟩
 walk_at "rd"
 obtain ⟨z,as,e1,pr⟩:=htr
 have hlen:=Paired_len pr
 refine ⟨sml' (by decide),fun D nD=>⟨⟨_,SqL.of ((Same.new nD) _ _ e1)⟩,?_⟩⟩
 obtain ⟨Pv,hPv⟩:∃ Pv:Nat->L2.St->Hp->Prop,∀ i σ H',Pv i σ H' ↔ (Same H H'/\∃ (bs:List Addr) (o3 o4 o5:Option V),σ=[some (.ref l),some (.int (gone:Int)),some (.ref D),o3,o4,o5]/\H' D=some (.lst (bs.map V.ref))/\Paired (fun a t=>H a=none/\H' a=some (.tup (trv t))) bs (withoutT gone (ts.take i))):=⟨_,fun _ _ _=>Iff.rfl⟩
 refine loop_of (yl_list (K:=K) (SqL.of e1)) Pv (fun i σ H' h=>((hPv _ _ _).mp h).1) ((hPv _ _ _).mpr ⟨Same.new nD,[],none,none,none,rfl,upd_same,.nil⟩) (fun i σ H' H2 h s=>by
  obtain ⟨h1,bs,o3,o4,o5,h2,h3,h4⟩:=(hPv _ _ _).mp h
  exact (hPv _ _ _).mpr ⟨h1.trans s,bs,o3,o4,o5,h2,s _ _ h3,Paired_map h4 fun a t ⟨n,e⟩=>⟨n,s _ _ e⟩⟩) ?_ ?_
 ·intro i σ H1 v hi h y
  obtain ⟨s1,bs,o3,o4,o5,rfl,hD,pb⟩:=(hPv _ _ _).mp h
  have hi:i<ts.length:=by rw [List.length_map,hlen] at hi;exact hi
  obtain ⟨ta,g1,g2,g3⟩:=Paired_get pr (List.getElem?_eq_getElem hi)
  have ev:v=.ref ta:=by rw [List.getElem?_map,g1] at y;exact (Option.some.inj y).symm
  subst ev
  have hbl:bs.length<=100:=by
   rw [Paired_len pb]
   unfold withoutT
   rw [List.length_map]
   refine Nat.le_trans (List.length_filter_le _ _) ?_
   rw [List.length_take]
   omega
  have estep:withoutT gone (ts.take (i+1))=withoutT gone (ts.take i)++(if keepT gone ts[i]=true then [upT gone ts[i]] else []):=by
   unfold withoutT
   rw [take_snoc (List.getElem?_eq_getElem hi),List.filter_append,List.map_append,List.filter_cons]
   split <;> simp
  refine gtup_of (s1 _ _ g3) rfl ?_
  unfold trv
  walk_at "rd"
  have skip:keepT gone ts[i]=false->∀ o3 o4 o5:Option V,Pv (i+1) [some (.ref l),some (.int (gone:Int)),some (.ref D),o3,o4,o5] H1:=fun hk o3 o4 o5=>by
   refine (hPv _ _ _).mpr ⟨s1,bs,o3,o4,o5,rfl,hD,?_⟩
   rw [estep,hk]
   simpa using pb
  by_cases h1:ts[i].2.1=gone
  ·rw [if_neg (by omega)]
   exact skip (by unfold keepT;simp [h1]) _ _ _
  rw [if_pos (by omega)]
  by_cases h2:ts[i].2.2=gone
  ·rw [if_neg (by omega)]
   exact skip (by unfold keepT;simp [h2]) _ _ _
  rw [if_pos (by omega)]
  have hk:keepT gone ts[i]=true:=by unfold keepT;simp [h1,h2]
  refine ⟨.inl ⟨rfl,_,SqL.of hD⟩,_,gone,rfl,?_⟩
  walk_at "rd"
  refine ⟨_,gone,rfl,?_⟩
  walk_at "rd"
  refine ⟨sml' (by decide),fun t nt=>?_⟩
  have s2:=Same.new (o:=.tup [V.int (ts[i].1:Int),V.int (up1 ts[i].2.1 gone:Nat),V.int (up1 ts[i].2.2 gone:Nat)]) nt
  refine ⟨_,s2 _ _ hD,sml (by rw [List.length_map];omega),?_⟩
  refine (hPv _ _ _).mpr ⟨(s1.trans s2).put nD,bs++[t],_,_,_,rfl,by rw [upd_same,List.map_append];rfl,?_⟩
  rw [estep,if_pos hk]
  have hne:∀ a t',H1 a=some (.tup t')->a ≠ D:=fun a t' e z=>by rw [z,hD] at e;cases e
  have htD:t ≠ D:=fun z=>by rw [z,hD] at nt;cases nt
  refine Paired_snoc (Paired_map pb fun a t ⟨n,e⟩=>⟨n,by rw [upd_ne (hne a _ e)];exact s2 _ _ e⟩) ⟨none_back s1 nt,?_⟩
  rw [upd_ne htD,upd_same]
  rfl
 ·intro σ H1 h
  obtain ⟨s1,bs,o3,o4,o5,rfl,hD,pb⟩:=(hPv _ _ _).mp h
  walk_at "rd"
  rw [List.length_map,hlen,List.take_length] at pb
  exact q D bs H1 nD s1 hD pb
end
section
open KragNeutral (told)
theorem Paired_erase {α β:Type} {F:α->β->Prop}:∀ {l₁:List α} {l₂:List β} (i:Nat),Paired F l₁ l₂->Paired F (l₁.eraseIdx i) (l₂.eraseIdx i)
 | _,_,_,.nil=>.nil
 | _,_,0,.cons _ t=>t
 | _,_,i+1,.cons r t=>.cons r (Paired_erase i t)
theorem Paired_set {α β:Type} {F:α->β->Prop} {a:α} {b:β} (h:F a b):∀ {l₁:List α} {l₂:List β} (i:Nat),Paired F l₁ l₂->Paired F (l₁.set i a) (l₂.set i b)
 | _,_,_,.nil=>.nil
 | _,_,0,.cons _ t=>.cons h t
 | _,_,i+1,.cons r t=>.cons r (Paired_set h i t)
section
variable {b:Krag.Book}
theorem ok_like_snoc (ok:BookOk b) (h:b.worlds.told.length<4) {k x y:Nat} (hk:k<=2) (hx:x<2 ^ b.n) (hy:y<2 ^ b.n):BookOk (bookLike b (b.worlds.told++[⟨x,y,k⟩])):=
 ⟨ok.n1,ok.n4,ok.p1,ok.p4,by show (b.worlds.told++[_]).length<=4;rw [List.length_append];simp only [List.length_cons,List.length_nil];omega,fun t ht=>by
  rcases List.mem_append.mp (show t ∈ b.worlds.told++[⟨x,y,k⟩] from ht) with ht | ht
  ·exact ok.lk t ht
  ·rw [List.mem_singleton] at ht
   subst ht
   exact ⟨hk,hx,hy⟩,ok.o5,ok.lt,ok.r5,ok.rt⟩
theorem ok_like_erase (ok:BookOk b) (t:Nat):BookOk (bookLike b (b.worlds.told.eraseIdx t)):=
 ⟨ok.n1,ok.n4,ok.p1,ok.p4,Nat.le_trans (List.length_eraseIdx_le _ _) ok.l4,fun u hu=>ok.lk u (List.mem_of_mem_eraseIdx hu),ok.o5,ok.lt,ok.r5,ok.rt⟩
theorem ok_lots_snoc (ok:BookOk b) (h:b.lots.length<5) {l:List Nat} (hl:lotB b l=true):BookOk (bookLots b (b.lots++[l])):=by
 unfold lotB at hl
 rw [Bool.and_eq_true,beq_iff_eq,List.all_eq_true] at hl
 refine ⟨ok.n1,ok.n4,ok.p1,ok.p4,ok.l4,ok.lk,?_,fun t ht=>?_,ok.r5,fun t ht=>?_⟩
 ·show (b.lots++[l]).length<=5
  rw [List.length_append];simp only [List.length_cons,List.length_nil];omega
 ·rcases List.mem_append.mp (show t ∈ b.lots++[l] from ht) with ht | ht
  ·exact ok.lt t ht
  ·rw [List.mem_singleton] at ht
   subst ht
   exact ⟨hl.1,fun p hp=>by have:=hl.2 p hp;rwa [decide_eq_true_eq] at this⟩
 ·obtain ⟨h1,h2,h3⟩:=ok.rt t ht
  refine ⟨h1,?_,?_⟩
  ·show t.a<(b.lots++[l]).length
   rw [List.length_append];omega
  ·show t.b<(b.lots++[l]).length
   rw [List.length_append];omega
theorem ok_prize (ok:BookOk b) {l i p:Nat} (hl:l<b.lots.length) (hp:p<b.prizes):BookOk (bookLots b (b.lots.set l ((b.lot l).set i p))):=by
 have e9:b.lot l=b.lots[l]:=by unfold Krag.Book.lot;rw [List.getD_eq_getElem?_getD,List.getElem?_eq_getElem hl];rfl
 refine ⟨ok.n1,ok.n4,ok.p1,ok.p4,ok.l4,ok.lk,?_,fun t ht=>?_,ok.r5,fun t ht=>?_⟩
 ·show (b.lots.set _ _).length<=5
  rw [List.length_set];exact ok.o5
 ·rcases List.mem_or_eq_of_mem_set (show t ∈ b.lots.set _ _ from ht) with ht | ht
  ·exact ok.lt t ht
  ·subst ht
   obtain ⟨h1,h2⟩:=ok.lt _ (List.getElem_mem hl)
   rw [<-e9] at h1 h2
   refine ⟨by rw [List.length_set];exact h1,fun q hq=>?_⟩
   rcases List.mem_or_eq_of_mem_set hq with hq | hq
   ·exact h2 q hq
   ·subst hq;exact hp
 ·obtain ⟨h1,h2,h3⟩:=ok.rt t ht
  refine ⟨h1,?_,?_⟩
  ·show t.a<(b.lots.set _ _).length
   rw [List.length_set];exact h2
  ·show t.b<(b.lots.set _ _).length
   rw [List.length_set];exact h3
theorem ok_rather_snoc (ok:BookOk b) (h:b.rather.length<5) {k x y:Nat} (hk:k<=2) (hx:x<b.lots.length) (hy:y<b.lots.length):BookOk (bookRather b (b.rather++[⟨x,y,k⟩])):=
 ⟨ok.n1,ok.n4,ok.p1,ok.p4,ok.l4,ok.lk,ok.o5,ok.lt,by show (b.rather++[_]).length<=5;rw [List.length_append];simp only [List.length_cons,List.length_nil];omega,fun t ht=>by
  rcases List.mem_append.mp (show t ∈ b.rather++[⟨x,y,k⟩] from ht) with ht | ht
  ·exact ok.rt t ht
  ·rw [List.mem_singleton] at ht
   subst ht
   exact ⟨hk,hx,hy⟩⟩
theorem ok_rather_erase (ok:BookOk b) (t:Nat):BookOk (bookRather b (b.rather.eraseIdx t)):=
 ⟨ok.n1,ok.n4,ok.p1,ok.p4,ok.l4,ok.lk,ok.o5,ok.lt,Nat.le_trans (List.length_eraseIdx_le _ _) ok.r5,fun u hu=>ok.rt u (List.mem_of_mem_eraseIdx hu)⟩
theorem ok_unlot (ok:BookOk b) {l:Nat} (hl:l<b.lots.length):BookOk (b.unlot l):=by
 have hlen:(b.unlot l).lots.length=b.lots.length - 1:=by
  show (b.lots.eraseIdx l).length=_
  rw [List.length_eraseIdx,if_pos hl]
 refine ⟨ok.n1,ok.n4,ok.p1,ok.p4,ok.l4,ok.lk,?_,fun t ht=>ok.lt t (List.mem_of_mem_eraseIdx ht),?_,fun t ht=>?_⟩
 ·rw [hlen];have:=ok.o5;omega
 ·show ((b.rather.filter _).map _).length<=5
  rw [List.length_map]
  exact Nat.le_trans (List.length_filter_le _ _) ok.r5
 ·obtain ⟨u,hu,rfl⟩:=List.mem_map.mp (show t ∈ (b.rather.filter _).map _ from ht)
  obtain ⟨h1,h2⟩:=List.mem_filter.mp hu
  rw [Bool.and_eq_true,bne_iff_ne,bne_iff_ne] at h2
  obtain ⟨k1,k2,k3⟩:=ok.rt u h1
  rw [hlen]
  refine ⟨k1,?_,?_⟩
  ·show (if l<u.a then u.a - 1 else u.a)<_
   split <;> omega
  ·show (if l<u.b then u.b - 1 else u.b)<_
   split <;> omega
theorem rathers_unlot (l:Nat):rathers (b.unlot l)=withoutT l (rathers b):=by
 show ((b.rather.filter _).map _).map _=_
 unfold withoutT rathers
 rw [List.filter_map,List.map_map,List.map_map]
 rfl
end
def spCh3 (CT:Addr) (c:Nat):Sp:=fun vs H Q _=>∃ (Z:Addr->Prop) (a:Addr) (b:Krag.Book) (k x y:Nat),vs=[.ref a,.int (k:Int),.int (x:Int),.int (y:Int)]/\ToldAt Z CT H a b/\ZOk Z H/\ChQ Z CT H Q (chB b c [k,x,y])
def spCh1 (CT:Addr) (c:Nat):Sp:=fun vs H Q _=>∃ (Z:Addr->Prop) (a:Addr) (b:Krag.Book) (k:Nat),vs=[.ref a,.int (k:Int)]/\ToldAt Z CT H a b/\ZOk Z H/\ChQ Z CT H Q (chB b c [k])
def spChLot (CT:Addr):Sp:=fun vs H Q _=>∃ (Z:Addr->Prop) (a gl:Addr) (b:Krag.Book) (g:List Nat),vs=[.ref a,.ref gl]/\ToldAt Z CT H a b/\ZOk Z H/\¬ Z gl/\H gl=some (.lst (nv g))/\g.length<=255/\ChQ Z CT H Q (chB b 3 g)
def spChanged (CT:Addr):Sp:=fun vs H Q _=>∃ (Z:Addr->Prop) (a gl:Addr) (b:Krag.Book) (c:Nat) (g:List Nat),vs=[.ref a,.int (c:Int),.ref gl]/\ToldAt Z CT H a b/\ZOk Z H/\¬ Z gl/\H gl=some (.lst (nv g))/\GOk c g/\1<=c/\c<=7/\ChQ Z CT H Q (chB b c g)
theorem trips_snoc {Z:Addr->Prop} {H H':Hp} {l t p:Addr} {ts:List Trip} {u:Trip} {as:List Addr} (z:ZOk Z H) (s:Same H H') (np:H p=none) (nt:H t=none) (pr:Paired (fun a t=>¬ Z a/\H a=some (.tup (trv t))) as ts) (et:H' t=some (.tup (trv u))) (ep:H' p=some (.lst (as.map V.ref++[.ref t]))):TripsAt Z H' p (ts++[u]):=
 ⟨z.not np,as++[t],by rw [ep,List.map_append];rfl,Paired_snoc (Paired_map pr fun a t ⟨h1,h2⟩=>⟨h1,s _ _ h2⟩) ⟨z.not nt,et⟩⟩
theorem ChQ.fin {Z:Addr->Prop} {CT:Addr} {H H2:Hp} {Q:VK} {r:Krag.Ans} {bk:Krag.Book} (q:ChQ Z CT H Q (some bk,r)) {p0 p4 p5:Addr} {xs:List V} (s:Same H H2) (n0:H p0=none) (e0:H2 p0=some (.lst xs)) (ex:xs=(told r).map V.int) (t:ToldAt Z CT H2 p4 bk) (n5:H2 p5=none):Q (.ref p5) (upd H2 p5 (.tup [.ref p0,.ref p4])):=by
 subst ex
 exact q p5 p0 (.ref p4) _ (s.trans (Same.new n5)) n0 upd_same ((Same.new n5) _ _ e0) ⟨p4,rfl,t.mono (Same.new n5)⟩
theorem sc66:FnScope ["told","kind","first","second"] ["told","kind","first","second"] (defScope s_66):=⟨rfl,rfl,rfl,by decide +kernel,rfl,by decide +kernel,by decide +kernel⟩
theorem ok66 (F:Fun K "tell_likelier" "tell_likelier" s_66 f fd) (T:Txt K mg CT CS) (c_6:Callee P w K mg base "is_kind" 1 ["kind"] spIsKind) (c_7:Callee P w K mg base "is_world_set" 1 ["told","chosen"] (spIsWorldSet CT)) (c_63:Callee P w K mg base "refused" 1 ["number"] spRefused) (c_3:Callee P w K mg base "with_likelier" 3 ["told","likelier"] (spWithLike CT)):FnOk P w K mg base CX0 4 f fd ["told","kind","first","second"] (spCh3 CT 1):=by
 refine F.ok sc66 (fun vs H Q E h=>by obtain ⟨_,_,_,_,_,_,rfl,_⟩:=h;rfl) (fun cdv A outer s H vs Q E hr h=>?_)
 obtain ⟨Z,a,b,k,x,y,rfl,ht,hz,q⟩:=h
 refine ⟨_,(pss_cons (ps_if (PW.pt (pw_or (pt_not (pt_val (pe_fn c_6 (rm hr) (pa_cons (pv 1) pa_nil)))) (pw_or (pt_not (pt_val (pe_fn c_7 (rm hr) (pa_cons (pv 0) (pa_cons (pv 2) pa_nil))))) (pw_or1 (pt_not (pt_val (pe_fn c_7 (rm hr) (pa_cons (pv 0) (pa_cons (pv 3) pa_nil))))))))) (pss_one (ps_ret (pe_fn c_63 (rm hr) (pa_cons (pe_gi T.c_NOT_RIGHT) pa_nil)))) pss_nil)
  (pss_cons (ps_if (pt_cmpR op_eq (pe_callB call_len_seq rfl T.b_len PySem.boot_len (pa_cons (pe_likelier T (pv 0)) pa_nil)) (pe_gi T.c_MOST_LIKELIER) (nomark _)) (pss_one (ps_ret (pe_fn c_63 (rm hr) (pa_cons (pe_gi T.c_TOO_MANY) pa_nil)))) pss_nil)
  (pss_one (ps_ret (pe_tup (pa_cons (pe_lst (pa_cons (pe_callB call_len_seq rfl T.b_len PySem.boot_len (pa_cons (pe_likelier T (pv 0)) pa_nil)) pa_nil)) (pa_cons (pe_fn c_3 (rm hr) (pa_cons (pv 0) (pa_cons (pe_op op_cat (pe_likelier T (pv 0)) (pe_lst (pa_cons (pe_tup (pa_cons (pv 1) (pa_cons (pv 2) (pa_cons (pv 3) pa_nil)))) pa_nil))) pa_nil))) pa_nil))))))),?_⟩
 walk_at "rd"
 have ok:=ht.ok
 have q:ChQ Z CT H Q (chLike b k x y):=q
 unfold chLike bad1 at q
 refine ⟨k,rfl,_,rfl,?_⟩
 rcases Nat.lt_or_ge 2 k with h1 | h1
 ·rw [if_pos (by simpa using h1)]
  rw [if_pos (by omega)] at q
  exact ⟨_,rfl,q.ref⟩
 rw [if_neg (by simpa using h1)]
 refine ⟨Z,a,x,b,rfl,ht,_,rfl,?_⟩
 rcases (Nat.lt_or_ge x (2 ^ b.n)).symm with h2 | h2
 ·rw [if_pos (by simpa using h2)]
  rw [if_pos (.inr (.inl (by rw [decide_eq_true_eq];show 2 ^ b.n<=x;omega)))] at q
  exact ⟨_,rfl,q.ref⟩
 rw [if_neg (by simpa using h2)]
 refine ⟨Z,a,y,b,rfl,ht,_,rfl,?_⟩
 rcases (Nat.lt_or_ge y (2 ^ b.n)).symm with h3 | h3
 ·rw [if_pos (by simpa using h3)]
  rw [if_pos (.inr (.inr (by rw [decide_eq_true_eq];show 2 ^ b.n<=y;omega)))] at q
  exact ⟨_,rfl,q.ref⟩
 rw [if_neg (by simpa using h3)]
 rw [if_neg (by rw [decide_eq_true_eq,decide_eq_true_eq];show ¬ (2<k\/2 ^ b.n<=x\/2 ^ b.n<=y);omega)] at q
 refine ⟨Z,b,H,ht,Same.refl _,fun l1 hl1=>?_⟩
 have hlk:(likes b).length=b.worlds.told.length:=by unfold likes;simp
 have hl4:=ok.l4
 obtain ⟨z1,as,e1,pr⟩:=hl1
 refine ⟨_,.inl (SqL.of e1),?_⟩
 rw [List.length_map,Paired_len pr,hlk]
 by_cases h4:b.worlds.told.length=4
 ·rw [if_pos (by omega)]
  rw [if_pos (by rw [h4];decide)] at q
  exact ⟨_,rfl,q.ref⟩
 rw [if_neg (by omega)]
 rw [if_neg (by show ¬ 4<=_;omega)] at q
 refine ⟨Z,b,H,ht,Same.refl _,fun l2 hl2=>?_⟩
 obtain ⟨z2,as2,e2,pr2⟩:=hl2
 refine ⟨_,.inl (SqL.of e2),sml' (by decide),fun p0 n0=>?_⟩
 rw [List.length_map,Paired_len pr2,hlk]
 have s0:=Same.new (o:=.lst [V.int (b.worlds.told.length:Int)]) n0
 refine ⟨Z,b,H,ht,s0,fun l3 hl3=>?_⟩
 obtain ⟨z3,as3,e3,pr3⟩:=hl3
 have hl3:=Paired_len pr3
 refine ⟨sml' (by decide),fun t nt=>⟨sml' (by decide),fun p2 n2=>?_⟩⟩
 have s1:=s0.trans (Same.new (o:=.tup [V.int (k:Int),V.int (x:Int),V.int (y:Int)]) nt)
 have s2:=s1.trans (Same.new (o:=.lst [V.ref t]) n2)
 refine ⟨_,s2 _ _ e3,_,upd_same,sml' (by rw [List.length_map];simp only [List.length_cons,List.length_nil];omega),fun p3 n3=>?_⟩
 have s3:=s2.trans (Same.new (o:=.lst (as3.map V.ref++[.ref t])) n3)
 refine ⟨Z,a,p3,b,b.worlds.told++[⟨x,y,k⟩],rfl,ht.mono s3,hz.mono s3,?_,ok_like_snoc ok (by omega) h1 h2 h3,fun p4 H4 n4 s4 t4=>?_⟩
 ·have el:likes (bookLike b (b.worlds.told++[⟨x,y,k⟩]))=likes b++[(k,x,y)]:=by
   show (b.worlds.told++[_]).map _=_
   rw [List.map_append];rfl
  rw [el]
  exact trips_snoc (l:=l1) hz s3 (none_back s2 n3) (none_back s0 nt) pr3 ((Same.new n3) _ _ ((Same.new n2) _ _ upd_same)) upd_same
 ·walk_at "rd"
  refine ⟨sml' (by decide),fun p5 n5=>q.fin (s3.trans s4) n0 (s4 _ _ ((Same.new n3) _ _ ((Same.new n2) _ _ ((Same.new nt) _ _ upd_same)))) rfl t4 n5⟩
theorem sc67:FnScope ["told","place","left"] ["told","place"] (defScope s_67):=⟨rfl,rfl,rfl,by decide +kernel,rfl,by decide +kernel,by decide +kernel⟩
theorem ok67 (F:Fun K "untell_likelier" "untell_likelier" s_67 f fd) (T:Txt K mg CT CS) (c_63:Callee P w K mg base "refused" 1 ["number"] spRefused) (c_64:Callee P w K mg base "without" 1 ["rows","place"] spWithout) (c_3:Callee P w K mg base "with_likelier" 3 ["told","likelier"] (spWithLike CT)):FnOk P w K mg base CX0 4 f fd ["told","place"] (spCh1 CT 2):=by
 refine F.ok sc67 (fun vs H Q E h=>by obtain ⟨_,_,_,_,rfl,_⟩:=h;rfl) (fun cdv A outer s H vs Q E hr h=>?_)
 obtain ⟨Z,a,b,k,rfl,ht,hz,q⟩:=h
 refine ⟨_,(pss_cons (ps_if (pt_cmpR op_ge (pv 1) (pe_callB call_len_seq rfl T.b_len PySem.boot_len (pa_cons (pe_likelier T (pv 0)) pa_nil)) (nomark _)) (pss_one (ps_ret (pe_fn c_63 (rm hr) (pa_cons (pe_gi T.c_NONE_SUCH) pa_nil)))) pss_nil)
  (pss_cons (pS 2 sc67.nd (pe_fn c_64 (rm hr) (pa_cons (pe_likelier T (pv 0)) (pa_cons (pv 1) pa_nil))))
  (pss_one (ps_ret (pe_tup (pa_cons (pe_lst (pa_cons (pe_callB call_len_seq rfl T.b_len PySem.boot_len (pa_cons (pv 2) pa_nil)) pa_nil)) (pa_cons (pe_fn c_3 (rm hr) (pa_cons (pv 0) (pa_cons (pv 2) pa_nil))) pa_nil))))))),?_⟩
 walk_at "rd"
 have ok:=ht.ok
 have q:ChQ Z CT H Q (chUnlike b k):=q
 unfold chUnlike at q
 have hlk:(likes b).length=b.worlds.told.length:=by unfold likes;simp
 have hl4:=ok.l4
 refine ⟨Z,b,H,ht,Same.refl _,fun l1 hl1=>?_⟩
 obtain ⟨z1,as,e1,pr⟩:=hl1
 refine ⟨_,.inl (SqL.of e1),?_⟩
 rw [List.length_map,Paired_len pr,hlk]
 rcases (Nat.lt_or_ge k b.worlds.told.length).symm with h1 | h1
 ·rw [if_pos (by omega)]
  rw [if_pos h1] at q
  exact ⟨_,rfl,q.ref⟩
 rw [if_neg (by omega)]
 rw [if_neg (by omega)] at q
 refine ⟨Z,b,H,ht,Same.refl _,fun l2 hl2=>?_⟩
 obtain ⟨z2,as2,e2,pr2⟩:=hl2
 have hl2:=Paired_len pr2
 refine ⟨l2,_,k,rfl,e2,by rw [List.length_map];omega,fun p1 H1 n1 s1 e3=>?_⟩
 rw [erase_map] at e3
 have ee:likes (bookLike b (b.worlds.told.eraseIdx k))=(likes b).eraseIdx k:=by
  show (b.worlds.told.eraseIdx k).map _=_
  unfold likes
  rw [erase_map]
 have pr3:=Paired_erase k pr2
 have hlen3:=Paired_len pr3
 rw [<-ee] at pr3 hlen3
 have hlen4:(likes (bookLike b (b.worlds.told.eraseIdx k))).length=(b.worlds.told.eraseIdx k).length:=by
  show ((b.worlds.told.eraseIdx k).map _).length=_
  rw [List.length_map]
 walk_at "rd"
 refine ⟨_,.inl (SqL.of e3),sml' (by decide),fun p0 n0=>?_⟩
 have s2:=s1.trans (Same.new (o:=.lst [V.int (((as2.eraseIdx k).map V.ref).length:Nat)]) n0)
 refine ⟨Z,a,p1,b,b.worlds.told.eraseIdx k,rfl,ht.mono s2,hz.mono s2,⟨hz.not n1,as2.eraseIdx k,(Same.new n0) _ _ e3,Paired_map pr3 fun a t ⟨h1,h2⟩=>⟨h1,s2 _ _ h2⟩⟩,ok_like_erase ok k,fun p4 H4 n4 s4 t4=>?_⟩
 walk_at "rd"
 refine ⟨sml' (by decide),fun p5 n5=>q.fin (s2.trans s4) (none_back s1 n0) (s4 _ _ upd_same) ?_ t4 n5⟩
 rw [List.length_map,hlen3,hlen4]
 rfl
end
section
open KragNeutral (told)
theorem sc69:FnScope ["told","prizes"] ["told","prizes"] (defScope s_69):=⟨rfl,rfl,rfl,by decide +kernel,rfl,by decide +kernel,by decide +kernel⟩
theorem ok69 (F:Fun K "add_lot" "add_lot" s_69 f fd) (T:Txt K mg CT CS) (c_68:Callee P w K mg base "is_prize_for_each_world" 2 ["told","prizes"] (spPrizeEach CT)) (c_63:Callee P w K mg base "refused" 1 ["number"] spRefused) (c_4:Callee P w K mg base "with_lots" 3 ["told","lots"] (spWithLots CT)):FnOk P w K mg base CX0 4 f fd ["told","prizes"] (spChLot CT):=by
 refine F.ok sc69 (fun vs H Q E h=>by obtain ⟨_,_,_,_,_,rfl,_⟩:=h;rfl) (fun cdv A outer s H vs Q E hr h=>?_)
 obtain ⟨Z,a,gl,b,g,rfl,ht,hz,hzg,eg,hg,q⟩:=h
 refine ⟨_,(pss_cons (ps_if (pt_not (pt_val (pe_fn c_68 (rm hr) (pa_cons (pv 0) (pa_cons (pv 1) pa_nil))))) (pss_one (ps_ret (pe_fn c_63 (rm hr) (pa_cons (pe_gi T.c_NOT_RIGHT) pa_nil)))) pss_nil)
  (pss_cons (ps_if (pt_cmpR op_eq (pe_callB call_len_seq rfl T.b_len PySem.boot_len (pa_cons (pe_lots T (pv 0)) pa_nil)) (pe_gi T.c_MOST_LOTS) (nomark _)) (pss_one (ps_ret (pe_fn c_63 (rm hr) (pa_cons (pe_gi T.c_TOO_MANY) pa_nil)))) pss_nil)
  (pss_one (ps_ret (pe_tup (pa_cons (pe_lst (pa_cons (pe_callB call_len_seq rfl T.b_len PySem.boot_len (pa_cons (pe_lots T (pv 0)) pa_nil)) pa_nil)) (pa_cons (pe_fn c_4 (rm hr) (pa_cons (pv 0) (pa_cons (pe_op op_cat (pe_lots T (pv 0)) (pe_lst (pa_cons (pv 1) pa_nil))) pa_nil))) pa_nil))))))),?_⟩
 walk_at "rd"
 have ok:=ht.ok
 have q:ChQ Z CT H Q (chLot b g):=q
 unfold chLot at q
 refine ⟨Z,a,gl,b,g,rfl,ht,eg,hg,fun H1 s1=>?_⟩
 walk_at "rd"
 have hl5:=ok.o5
 have ht1:=ht.mono s1
 cases h1:lotB b g with
 | false=>
  rw [if_pos rfl]
  rw [if_pos h1] at q
  exact ⟨_,rfl,q.ref.mono s1⟩
 | true=>
  rw [if_neg (by simp)]
  rw [if_neg (by simp [h1])] at q
  refine ⟨Z,b,H1,ht1,Same.refl _,fun l1 hl1=>?_⟩
  obtain ⟨z1,as,e1,pr⟩:=hl1
  refine ⟨_,.inl (SqL.of e1),?_⟩
  rw [List.length_map,Paired_len pr]
  by_cases h4:b.lots.length=5
  ·rw [if_pos (by omega)]
   rw [if_pos (by rw [h4];decide)] at q
   exact ⟨_,rfl,q.ref.mono s1⟩
  rw [if_neg (by omega)]
  rw [if_neg (by show ¬ 5<=_;omega)] at q
  refine ⟨Z,b,H1,ht1,Same.refl _,fun l2 hl2=>?_⟩
  obtain ⟨z2,as2,e2,pr2⟩:=hl2
  refine ⟨_,.inl (SqL.of e2),sml' (by decide),fun p0 n0=>?_⟩
  rw [List.length_map,Paired_len pr2]
  have s0:=Same.new (o:=.lst [V.int (b.lots.length:Int)]) n0
  refine ⟨Z,b,H1,ht1,s0,fun l3 hl3=>?_⟩
  obtain ⟨z3,as3,e3,pr3⟩:=hl3
  have hl3:=Paired_len pr3
  refine ⟨sml' (by decide),fun p2 n2=>?_⟩
  have s2:=s0.trans (Same.new (o:=.lst [V.ref gl]) n2)
  refine ⟨_,s2 _ _ e3,_,upd_same,sml' (by rw [List.length_map];simp only [List.length_cons,List.length_nil];omega),fun p3 n3=>?_⟩
  have s3:=s2.trans (Same.new (o:=.lst (as3.map V.ref++[.ref gl])) n3)
  have hz1:=hz.mono s1
  refine ⟨Z,a,p3,b,b.lots++[g],rfl,ht1.mono s3,hz1.mono s3,⟨hz1.not (none_back s2 n3),as3++[gl],by rw [upd_same,List.map_append];rfl,Paired_snoc (Paired_map pr3 fun a t ⟨h1,h2⟩=>⟨h1,s3 _ _ h2⟩) ⟨hzg,s3 _ _ (s1 _ _ eg)⟩⟩,fun p4 H4 n4 s4 zp4 ⟨dx,k1,k3,e4,t1,t2,t3⟩=>?_⟩
  walk_at "rd"
  refine ⟨sml' (by decide),fun p5 n5=>q.fin ((s1.trans s3).trans s4) (none_back s1 n0) (s4 _ _ ((Same.new n3) _ _ ((Same.new n2) _ _ upd_same))) rfl ⟨zp4,ok_lots_snoc ok (by omega) h1,dx,k1,p3,k3,e4,t1,t2,t3⟩ n5⟩
theorem sc72:FnScope ["told","lot","lots","rather"] ["told","lot"] (defScope s_72):=⟨rfl,rfl,rfl,by decide +kernel,rfl,by decide +kernel,by decide +kernel⟩
theorem ok72 (F:Fun K "remove_lot" "remove_lot" s_72 f fd) (T:Txt K mg CT CS) (c_8:Callee P w K mg base "has_lot" 1 ["told","lot"] (spHasLot CT)) (c_63:Callee P w K mg base "refused" 1 ["number"] spRefused) (c_64:Callee P w K mg base "without" 1 ["rows","place"] spWithout) (c_71:Callee P w K mg base "rather_without_lot" 2 ["rather","gone"] spRatherWithout) (c_4:Callee P w K mg base "with_lots" 3 ["told","lots"] (spWithLots CT)) (c_5:Callee P w K mg base "with_rather" 3 ["told","rather"] (spWithRather CT)):FnOk P w K mg base CX0 4 f fd ["told","lot"] (spCh1 CT 4):=by
 refine F.ok sc72 (fun vs H Q E h=>by obtain ⟨_,_,_,_,rfl,_⟩:=h;rfl) (fun cdv A outer s H vs Q E hr h=>?_)
 obtain ⟨Z,a,b,k,rfl,ht,hz,q⟩:=h
 refine ⟨_,(pss_cons (ps_if (pt_not (pt_val (pe_fn c_8 (rm hr) (pa_cons (pv 0) (pa_cons (pv 1) pa_nil))))) (pss_one (ps_ret (pe_fn c_63 (rm hr) (pa_cons (pe_gi T.c_NONE_SUCH) pa_nil)))) pss_nil)
  (pss_cons (pS 2 sc72.nd (pe_fn c_64 (rm hr) (pa_cons (pe_lots T (pv 0)) (pa_cons (pv 1) pa_nil))))
  (pss_cons (pS 3 sc72.nd (pe_fn c_71 (rm hr) (pa_cons (pe_rather T (pv 0)) (pa_cons (pv 1) pa_nil))))
  (pss_one (ps_ret (pe_tup (pa_cons (pe_lst (pa_cons (pe_callB call_len_seq rfl T.b_len PySem.boot_len (pa_cons (pv 2) pa_nil)) (pa_cons (pe_callB call_len_seq rfl T.b_len PySem.boot_len (pa_cons (pv 3) pa_nil)) pa_nil))) (pa_cons (pe_fn c_5 (rm hr) (pa_cons (pe_fn c_4 (rm hr) (pa_cons (pv 0) (pa_cons (pv 2) pa_nil))) (pa_cons (pv 3) pa_nil))) pa_nil)))))))),?_⟩
 walk_at "rd"
 have ok:=ht.ok
 have q:ChQ Z CT H Q (chUnlot b k):=q
 unfold chUnlot no1 at q
 have hl5:=ok.o5
 have hr5:=ok.r5
 refine ⟨Z,a,k,b,rfl,ht,_,rfl,?_⟩
 rcases (Nat.lt_or_ge k b.lots.length).symm with h1 | h1
 ·rw [if_pos (by simpa using h1)]
  rw [if_pos (by simpa using h1)] at q
  exact ⟨_,rfl,q.ref⟩
 rw [if_neg (by simpa using h1)]
 rw [if_neg (by simpa using h1)] at q
 refine ⟨Z,b,H,ht,Same.refl _,fun l2 hl2=>?_⟩
 obtain ⟨z2,as2,e2,pr2⟩:=hl2
 have hl2:=Paired_len pr2
 refine ⟨l2,_,k,rfl,e2,by rw [List.length_map];omega,fun p1 H1 n1 s1 e3=>?_⟩
 rw [erase_map] at e3
 have pr3:=Paired_erase k pr2
 have hlen3:=Paired_len pr3
 walk_at "rd"
 have hlr:(rathers b).length=b.rather.length:=by unfold rathers;simp
 refine ⟨Z,b,H1,ht.mono s1,Same.refl _,fun l3 hl3=>?_⟩
 refine ⟨Z,l3,rathers b,k,rfl,hl3,by omega,fun p2 bs H2 n2 s2 e4 pr4=>?_⟩
 rw [<-rathers_unlot] at pr4
 have hlen4:=Paired_len pr4
 walk_at "rd"
 have s12:=s1.trans s2
 refine ⟨_,.inl (SqL.of (s2 _ _ e3)),_,.inl (SqL.of e4),sml' (by decide),fun p0 n0=>?_⟩
 have s0:=Same.new (o:=.lst [V.int (((as2.eraseIdx k).map V.ref).length:Nat),V.int ((bs.map V.ref).length:Nat)]) n0
 have s3:=s12.trans s0
 refine ⟨Z,a,p1,b,b.lots.eraseIdx k,rfl,ht.mono s3,hz.mono s3,⟨hz.not n1,as2.eraseIdx k,s0 _ _ (s2 _ _ e3),Paired_map pr3 fun a t ⟨h1,h2⟩=>⟨h1,s3 _ _ h2⟩⟩,fun p4 H4 n4 s4 zp4 ⟨dx,k1,k3,e5,t1,t2,t3⟩=>?_⟩
 walk_at "rd"
 have hz1:=hz.mono s1
 refine ⟨Z,p4,dx,k1,p1,k3,p2,b.unlot k,rfl,e5,(hz.mono s3).mono s4,t1,t2,⟨hz1.not n2,bs,s4 _ _ (s0 _ _ e4),Paired_map pr4 fun a t ⟨h1,h2⟩=>⟨hz1.not h1,s4 _ _ (s0 _ _ h2)⟩⟩,ok_unlot ok h1,fun p6 H6 n6 s6 t6=>?_⟩
 walk_at "rd"
 refine ⟨sml' (by decide),fun p5 n5=>q.fin ((s3.trans s4).trans s6) (none_back s12 n0) (s6 _ _ (s4 _ _ upd_same)) ?_ t6 n5⟩
 have e9:(rathers (b.unlot k)).length=(b.unlot k).rather.length:=by unfold rathers;simp
 rw [List.length_map,List.length_map,hlen3,hlen4,e9]
 rfl
theorem sc73:FnScope ["told","lot","world","prize","prizes","lots"] ["told","lot","world","prize"] (defScope s_73):=⟨rfl,rfl,rfl,by decide +kernel,rfl,by decide +kernel,by decide +kernel⟩
theorem ok73 (F:Fun K "set_prize" "set_prize" s_73 f fd) (T:Txt K mg CT CS) (c_8:Callee P w K mg base "has_lot" 1 ["told","lot"] (spHasLot CT)) (c_10:Callee P w K mg base "has_prize" 1 ["told","prize"] (spHasPrize CT)) (c_63:Callee P w K mg base "refused" 1 ["number"] spRefused) (c_65:Callee P w K mg base "replaced" 1 ["rows","place","value"] spReplaced) (c_4:Callee P w K mg base "with_lots" 3 ["told","lots"] (spWithLots CT)):FnOk P w K mg base CX0 4 f fd ["told","lot","world","prize"] (spCh3 CT 5):=by
 refine F.ok sc73 (fun vs H Q E h=>by obtain ⟨_,_,_,_,_,_,rfl,_⟩:=h;rfl) (fun cdv A outer s H vs Q E hr h=>?_)
 obtain ⟨Z,a,b,k,x,y,rfl,ht,hz,q⟩:=h
 refine ⟨_,(pss_cons (ps_if (PW.pt (pw_or (pt_not (pt_val (pe_fn c_8 (rm hr) (pa_cons (pv 0) (pa_cons (pv 1) pa_nil))))) (pw_or (pt_cmpR op_ge (pv 2) (pe_worlds T (pv 0)) (nomark _)) (pw_or1 (pt_not (pt_val (pe_fn c_10 (rm hr) (pa_cons (pv 0) (pa_cons (pv 3) pa_nil))))))))) (pss_one (ps_ret (pe_fn c_63 (rm hr) (pa_cons (pe_gi T.c_NONE_SUCH) pa_nil)))) pss_nil)
  (pss_cons (pS 4 sc73.nd (pe_ix ix_list (pe_lots T (pv 0)) (pv 1) (fun _ _=>rfl)))
  (pss_cons (pS 5 sc73.nd (pe_fn c_65 (rm hr) (pa_cons (pe_lots T (pv 0)) (pa_cons (pv 1) (pa_cons (pe_fn c_65 (rm hr) (pa_cons (pv 4) (pa_cons (pv 2) (pa_cons (pv 3) pa_nil)))) pa_nil)))))
  (pss_one (ps_ret (pe_tup (pa_cons (pe_lst (pa_cons (pe_ix ix_list (pv 4) (pv 2) (fun _ _=>rfl)) pa_nil)) (pa_cons (pe_fn c_4 (rm hr) (pa_cons (pv 0) (pa_cons (pv 5) pa_nil))) pa_nil)))))))),?_⟩
 walk_at "rd"
 have ok:=ht.ok
 have q:ChQ Z CT H Q (chPrize b k x y):=q
 unfold chPrize no1 at q
 have hl5:=ok.o5
 have hn4:=ok.n4
 refine ⟨Z,a,k,b,rfl,ht,_,rfl,?_⟩
 rcases (Nat.lt_or_ge k b.lots.length).symm with h1 | h1
 ·rw [if_pos (by simpa using h1)]
  rw [if_pos (by simp;omega)] at q
  exact ⟨_,rfl,q.ref⟩
 rw [if_neg (by simpa using h1)]
 refine ⟨Z,b,ht,?_⟩
 rcases (Nat.lt_or_ge x b.n).symm with h2 | h2
 ·rw [if_pos (by omega)]
  rw [if_pos (by simp;omega)] at q
  exact ⟨_,rfl,q.ref⟩
 rw [if_neg (by omega)]
 refine ⟨Z,a,y,b,rfl,ht,_,rfl,?_⟩
 rcases (Nat.lt_or_ge y b.prizes).symm with h3 | h3
 ·rw [if_pos (by simpa using h3)]
  rw [if_pos (by simp;omega)] at q
  exact ⟨_,rfl,q.ref⟩
 rw [if_neg (by simpa using h3)]
 rw [if_neg (by simp;omega)] at q
 have e9:b.lot k=b.lots[k]:=by unfold Krag.Book.lot;rw [List.getD_eq_getElem?_getD,List.getElem?_eq_getElem h1];rfl
 have hlk:(b.lot k).length=b.n:=by rw [e9];exact (ok.lt _ (List.getElem_mem h1)).1
 refine ⟨Z,b,H,ht,Same.refl _,fun l2 hl2=>?_⟩
 obtain ⟨z2,as2,e2,pr2⟩:=hl2
 obtain ⟨la,g1,g2,g3⟩:=Paired_get pr2 (List.getElem?_eq_getElem h1)
 rw [<-e9] at g3
 refine ⟨_,SqL.of e2,_,ref_at g1,?_⟩
 walk_at "rd"
 refine ⟨Z,b,H,ht,Same.refl _,fun l3 hl3=>?_⟩
 obtain ⟨z3,as3,e3,pr3⟩:=hl3
 have hl3:=Paired_len pr3
 refine ⟨la,_,x,_,rfl,g3,by rw [nv_length];omega,by rw [nv_length];omega,fun p1 H1 n1 s1 e4=>?_⟩
 walk_at "rd"
 refine ⟨l3,_,k,_,rfl,s1 _ _ e3,by rw [List.length_map];omega,by rw [List.length_map];omega,fun p2 H2 n2 s2 e5=>?_⟩
 walk_at "rd"
 have s12:=s1.trans s2
 refine ⟨_,SqL.of (s12 _ _ g3),_,atI_nat (nv_at (by omega)),sml' (by decide),fun p0 n0=>?_⟩
 have s0:=Same.new (o:=.lst [V.int (((b.lot k).getD x 0:Nat):Int)]) n0
 have s3:=s12.trans s0
 have e4':H1 p1=some (.lst (nv ((b.lot k).set x y))):=by
  rw [e4]
  unfold nv
  rw [List.map_set]
 refine ⟨Z,a,p2,b,b.lots.set k ((b.lot k).set x y),rfl,ht.mono s3,hz.mono s3,⟨hz.not (none_back s1 n2),as3.set k p1,?_,Paired_set ⟨hz.not n1,s0 _ _ (s2 _ _ e4')⟩ k (Paired_map pr3 fun a t ⟨h1,h2⟩=>⟨h1,s3 _ _ h2⟩)⟩,fun p4 H4 n4 s4 zp4 ⟨dx,k1,k3,e6,t1,t2,t3⟩=>?_⟩
 ·rw [s0 _ _ e5,List.map_set]
 walk_at "rd"
 refine ⟨sml' (by decide),fun p5 n5=>q.fin (s3.trans s4) (none_back s12 n0) (s4 _ _ upd_same) rfl ⟨zp4,ok_prize ok h1 h3,dx,k1,p2,k3,e6,t1,t2,t3⟩ n5⟩
theorem sc74:FnScope ["told","kind","first","second"] ["told","kind","first","second"] (defScope s_74):=⟨rfl,rfl,rfl,by decide +kernel,rfl,by decide +kernel,by decide +kernel⟩
theorem ok74 (F:Fun K "tell_rather" "tell_rather" s_74 f fd) (T:Txt K mg CT CS) (c_9:Callee P w K mg base "has_lots" 2 ["told","first","second"] (spHasLots CT)) (c_6:Callee P w K mg base "is_kind" 1 ["kind"] spIsKind) (c_63:Callee P w K mg base "refused" 1 ["number"] spRefused) (c_5:Callee P w K mg base "with_rather" 3 ["told","rather"] (spWithRather CT)):FnOk P w K mg base CX0 4 f fd ["told","kind","first","second"] (spCh3 CT 6):=by
 refine F.ok sc74 (fun vs H Q E h=>by obtain ⟨_,_,_,_,_,_,rfl,_⟩:=h;rfl) (fun cdv A outer s H vs Q E hr h=>?_)
 obtain ⟨Z,a,b,k,x,y,rfl,ht,hz,q⟩:=h
 refine ⟨_,(pss_cons (ps_if (pt_not (pt_val (pe_fn c_9 (rm hr) (pa_cons (pv 0) (pa_cons (pv 2) (pa_cons (pv 3) pa_nil)))))) (pss_one (ps_ret (pe_fn c_63 (rm hr) (pa_cons (pe_gi T.c_NONE_SUCH) pa_nil)))) pss_nil)
  (pss_cons (ps_if (pt_not (pt_val (pe_fn c_6 (rm hr) (pa_cons (pv 1) pa_nil)))) (pss_one (ps_ret (pe_fn c_63 (rm hr) (pa_cons (pe_gi T.c_NOT_RIGHT) pa_nil)))) pss_nil)
  (pss_cons (ps_if (pt_cmpR op_eq (pe_callB call_len_seq rfl T.b_len PySem.boot_len (pa_cons (pe_rather T (pv 0)) pa_nil)) (pe_gi T.c_MOST_RATHER) (nomark _)) (pss_one (ps_ret (pe_fn c_63 (rm hr) (pa_cons (pe_gi T.c_TOO_MANY) pa_nil)))) pss_nil)
  (pss_one (ps_ret (pe_tup (pa_cons (pe_lst (pa_cons (pe_callB call_len_seq rfl T.b_len PySem.boot_len (pa_cons (pe_rather T (pv 0)) pa_nil)) pa_nil)) (pa_cons (pe_fn c_5 (rm hr) (pa_cons (pv 0) (pa_cons (pe_op op_cat (pe_rather T (pv 0)) (pe_lst (pa_cons (pe_tup (pa_cons (pv 1) (pa_cons (pv 2) (pa_cons (pv 3) pa_nil)))) pa_nil))) pa_nil))) pa_nil)))))))),?_⟩
 walk_at "rd"
 have ok:=ht.ok
 have q:ChQ Z CT H Q (chRather b k x y):=q
 unfold chRather no1 at q
 have hr5:=ok.r5
 refine ⟨Z,a,x,y,b,rfl,ht,_,rfl,?_⟩
 by_cases h1:b.lots.length<=x\/b.lots.length<=y
 ·rw [if_pos (by simp;omega)]
  rw [if_pos (by simpa using h1)] at q
  exact ⟨_,rfl,q.ref⟩
 rw [if_neg (by simp;omega)]
 rw [if_neg (by simpa using h1)] at q
 refine ⟨k,rfl,_,rfl,?_⟩
 rcases Nat.lt_or_ge 2 k with h2 | h2
 ·rw [if_pos (by simpa using h2)]
  rw [if_pos h2] at q
  exact ⟨_,rfl,q.ref⟩
 rw [if_neg (by simpa using h2)]
 rw [if_neg (by omega)] at q
 refine ⟨Z,b,H,ht,Same.refl _,fun l1 hl1=>?_⟩
 have hlk:(rathers b).length=b.rather.length:=by unfold rathers;simp
 obtain ⟨z1,as,e1,pr⟩:=hl1
 refine ⟨_,.inl (SqL.of e1),?_⟩
 rw [List.length_map,Paired_len pr,hlk]
 by_cases h4:b.rather.length=5
 ·rw [if_pos (by omega)]
  rw [if_pos (by rw [h4];decide)] at q
  exact ⟨_,rfl,q.ref⟩
 rw [if_neg (by omega)]
 rw [if_neg (by show ¬ 5<=_;omega)] at q
 refine ⟨Z,b,H,ht,Same.refl _,fun l2 hl2=>?_⟩
 obtain ⟨z2,as2,e2,pr2⟩:=hl2
 refine ⟨_,.inl (SqL.of e2),sml' (by decide),fun p0 n0=>?_⟩
 rw [List.length_map,Paired_len pr2,hlk]
 have s0:=Same.new (o:=.lst [V.int (b.rather.length:Int)]) n0
 refine ⟨Z,b,H,ht,s0,fun l3 hl3=>?_⟩
 obtain ⟨z3,as3,e3,pr3⟩:=hl3
 have hl3:=Paired_len pr3
 refine ⟨sml' (by decide),fun t nt=>⟨sml' (by decide),fun p2 n2=>?_⟩⟩
 have s1:=s0.trans (Same.new (o:=.tup [V.int (k:Int),V.int (x:Int),V.int (y:Int)]) nt)
 have s2:=s1.trans (Same.new (o:=.lst [V.ref t]) n2)
 refine ⟨_,s2 _ _ e3,_,upd_same,sml' (by rw [List.length_map];simp only [List.length_cons,List.length_nil];omega),fun p3 n3=>?_⟩
 have s3:=s2.trans (Same.new (o:=.lst (as3.map V.ref++[.ref t])) n3)
 obtain ⟨za,_,dx,k1,k2,k3,e7,t1,t2,t3⟩:=ht.mono s3
 refine ⟨Z,a,dx,k1,k2,k3,p3,bookRather b (b.rather++[⟨x,y,k⟩]),rfl,e7,hz.mono s3,t1,t2,?_,ok_rather_snoc ok (by omega) h2 (by omega) (by omega),fun p4 H4 n4 s4 t4=>?_⟩
 ·have el:rathers (bookRather b (b.rather++[⟨x,y,k⟩]))=rathers b++[(k,x,y)]:=by
   show (b.rather++[_]).map _=_
   rw [List.map_append];rfl
  rw [el]
  exact trips_snoc (l:=l1) hz s3 (none_back s2 n3) (none_back s0 nt) pr3 ((Same.new n3) _ _ ((Same.new n2) _ _ upd_same)) upd_same
 ·walk_at "rd"
  refine ⟨sml' (by decide),fun p5 n5=>q.fin (s3.trans s4) n0 (s4 _ _ ((Same.new n3) _ _ ((Same.new n2) _ _ ((Same.new nt) _ _ upd_same)))) rfl t4 n5⟩
theorem sc75:FnScope ["told","place","left"] ["told","place"] (defScope s_75):=⟨rfl,rfl,rfl,by decide +kernel,rfl,by decide +kernel,by decide +kernel⟩
theorem ok75 (F:Fun K "untell_rather" "untell_rather" s_75 f fd) (T:Txt K mg CT CS) (c_63:Callee P w K mg base "refused" 1 ["number"] spRefused) (c_64:Callee P w K mg base "without" 1 ["rows","place"] spWithout) (c_5:Callee P w K mg base "with_rather" 3 ["told","rather"] (spWithRather CT)):FnOk P w K mg base CX0 4 f fd ["told","place"] (spCh1 CT 7):=by
 refine F.ok sc75 (fun vs H Q E h=>by obtain ⟨_,_,_,_,rfl,_⟩:=h;rfl) (fun cdv A outer s H vs Q E hr h=>?_)
 obtain ⟨Z,a,b,k,rfl,ht,hz,q⟩:=h
 refine ⟨_,(pss_cons (ps_if (pt_cmpR op_ge (pv 1) (pe_callB call_len_seq rfl T.b_len PySem.boot_len (pa_cons (pe_rather T (pv 0)) pa_nil)) (nomark _)) (pss_one (ps_ret (pe_fn c_63 (rm hr) (pa_cons (pe_gi T.c_NONE_SUCH) pa_nil)))) pss_nil)
  (pss_cons (pS 2 sc75.nd (pe_fn c_64 (rm hr) (pa_cons (pe_rather T (pv 0)) (pa_cons (pv 1) pa_nil))))
  (pss_one (ps_ret (pe_tup (pa_cons (pe_lst (pa_cons (pe_callB call_len_seq rfl T.b_len PySem.boot_len (pa_cons (pv 2) pa_nil)) pa_nil)) (pa_cons (pe_fn c_5 (rm hr) (pa_cons (pv 0) (pa_cons (pv 2) pa_nil))) pa_nil))))))),?_⟩
 walk_at "rd"
 have ok:=ht.ok
 have q:ChQ Z CT H Q (chUnrather b k):=q
 unfold chUnrather at q
 have hlk:(rathers b).length=b.rather.length:=by unfold rathers;simp
 have hl4:=ok.r5
 refine ⟨Z,b,H,ht,Same.refl _,fun l1 hl1=>?_⟩
 obtain ⟨z1,as,e1,pr⟩:=hl1
 refine ⟨_,.inl (SqL.of e1),?_⟩
 rw [List.length_map,Paired_len pr,hlk]
 rcases (Nat.lt_or_ge k b.rather.length).symm with h1 | h1
 ·rw [if_pos (by omega)]
  rw [if_pos h1] at q
  exact ⟨_,rfl,q.ref⟩
 rw [if_neg (by omega)]
 rw [if_neg (by omega)] at q
 refine ⟨Z,b,H,ht,Same.refl _,fun l2 hl2=>?_⟩
 obtain ⟨z2,as2,e2,pr2⟩:=hl2
 have hl2:=Paired_len pr2
 refine ⟨l2,_,k,rfl,e2,by rw [List.length_map];omega,fun p1 H1 n1 s1 e3=>?_⟩
 rw [erase_map] at e3
 have ee:rathers (bookRather b (b.rather.eraseIdx k))=(rathers b).eraseIdx k:=by
  show (b.rather.eraseIdx k).map _=_
  unfold rathers
  rw [erase_map]
 have pr3:=Paired_erase k pr2
 have hlen3:=Paired_len pr3
 rw [<-ee] at pr3 hlen3
 have hlen4:(rathers (bookRather b (b.rather.eraseIdx k))).length=(b.rather.eraseIdx k).length:=by
  show ((b.rather.eraseIdx k).map _).length=_
  rw [List.length_map]
 walk_at "rd"
 refine ⟨_,.inl (SqL.of e3),sml' (by decide),fun p0 n0=>?_⟩
 have s2:=s1.trans (Same.new (o:=.lst [V.int (((as2.eraseIdx k).map V.ref).length:Nat)]) n0)
 obtain ⟨za,_,dx,k1,k2,k3,e7,t1,t2,t3⟩:=ht.mono s2
 refine ⟨Z,a,dx,k1,k2,k3,p1,bookRather b (b.rather.eraseIdx k),rfl,e7,hz.mono s2,t1,t2,⟨hz.not n1,as2.eraseIdx k,(Same.new n0) _ _ e3,Paired_map pr3 fun a t ⟨h1,h2⟩=>⟨h1,s2 _ _ h2⟩⟩,ok_rather_erase ok k,fun p4 H4 n4 s4 t4=>?_⟩
 walk_at "rd"
 refine ⟨sml' (by decide),fun p5 n5=>q.fin (s2.trans s4) (none_back s1 n0) (s4 _ _ upd_same) ?_ t4 n5⟩
 rw [List.length_map,hlen3,hlen4]
 rfl
theorem sc76:FnScope ["told","call","given"] ["told","call","given"] (defScope s_76):=⟨rfl,rfl,rfl,by decide +kernel,rfl,by decide +kernel,by decide +kernel⟩
theorem ok76 (F:Fun K "changed" "changed" s_76 f fd) (T:Txt K mg CT CS)
  (c_66:Callee P w K mg base "tell_likelier" 4 ["told","kind","first","second"] (spCh3 CT 1))
  (c_67:Callee P w K mg base "untell_likelier" 4 ["told","place"] (spCh1 CT 2))
  (c_69:Callee P w K mg base "add_lot" 4 ["told","prizes"] (spChLot CT))
  (c_72:Callee P w K mg base "remove_lot" 4 ["told","lot"] (spCh1 CT 4))
  (c_73:Callee P w K mg base "set_prize" 4 ["told","lot","world","prize"] (spCh3 CT 5))
  (c_74:Callee P w K mg base "tell_rather" 4 ["told","kind","first","second"] (spCh3 CT 6))
  (c_75:Callee P w K mg base "untell_rather" 4 ["told","place"] (spCh1 CT 7)):FnOk P w K mg base CX0 5 f fd ["told","call","given"] (spChanged CT):=by
 refine F.ok sc76 (fun vs H Q E h=>by obtain ⟨_,_,_,_,_,_,rfl,_⟩:=h;rfl) (fun cdv A outer s H vs Q E hr h=>?_)
 obtain ⟨Z,a,gl,b,c,g,rfl,ht,hz,hzg,e,gok,c1,c7,q⟩:=h
 refine ⟨_,(pss_cons (ps_if (pt_cmpR op_eq (pv 1) (pe_gi T.c_LIKELIER) (nomark _)) (pss_one (ps_ret (pe_fn c_66 (rm hr) (pa_cons (pv 0) (pa_cons (pe_ix ix_list (pv 2) pe_int (fun _ _=>rfl)) (pa_cons (pe_ix ix_list (pv 2) pe_int (fun _ _=>rfl)) (pa_cons (pe_ix ix_list (pv 2) pe_int (fun _ _=>rfl)) pa_nil))))))) pss_nil)
  (pss_cons (ps_if (pt_cmpR op_eq (pv 1) (pe_gi T.c_UNLIKELIER) (nomark _)) (pss_one (ps_ret (pe_fn c_67 (rm hr) (pa_cons (pv 0) (pa_cons (pe_ix ix_list (pv 2) pe_int (fun _ _=>rfl)) pa_nil))))) pss_nil)
  (pss_cons (ps_if (pt_cmpR op_eq (pv 1) (pe_gi T.c_LOT) (nomark _)) (pss_one (ps_ret (pe_fn c_69 (rm hr) (pa_cons (pv 0) (pa_cons (pv 2) pa_nil))))) pss_nil)
  (pss_cons (ps_if (pt_cmpR op_eq (pv 1) (pe_gi T.c_UNLOT) (nomark _)) (pss_one (ps_ret (pe_fn c_72 (rm hr) (pa_cons (pv 0) (pa_cons (pe_ix ix_list (pv 2) pe_int (fun _ _=>rfl)) pa_nil))))) pss_nil)
  (pss_cons (ps_if (pt_cmpR op_eq (pv 1) (pe_gi T.c_PRIZE) (nomark _)) (pss_one (ps_ret (pe_fn c_73 (rm hr) (pa_cons (pv 0) (pa_cons (pe_ix ix_list (pv 2) pe_int (fun _ _=>rfl)) (pa_cons (pe_ix ix_list (pv 2) pe_int (fun _ _=>rfl)) (pa_cons (pe_ix ix_list (pv 2) pe_int (fun _ _=>rfl)) pa_nil))))))) pss_nil)
  (pss_cons (ps_if (pt_cmpR op_eq (pv 1) (pe_gi T.c_RATHER) (nomark _)) (pss_one (ps_ret (pe_fn c_74 (rm hr) (pa_cons (pv 0) (pa_cons (pe_ix ix_list (pv 2) pe_int (fun _ _=>rfl)) (pa_cons (pe_ix ix_list (pv 2) pe_int (fun _ _=>rfl)) (pa_cons (pe_ix ix_list (pv 2) pe_int (fun _ _=>rfl)) pa_nil))))))) pss_nil)
  (pss_one (ps_ret (pe_fn c_75 (rm hr) (pa_cons (pv 0) (pa_cons (pe_ix ix_list (pv 2) pe_int (fun _ _=>rfl)) pa_nil))))))))))),?_⟩
 walk_at "rd"
 have hl:=gok.2
 have hc:c=1\/c=2\/c=3\/c=4\/c=5\/c=6\/c=7:=by omega
 rcases hc with rfl | rfl | rfl | rfl | rfl | rfl | rfl
 ·obtain ⟨k,x,y,rfl⟩:=len3 (hl (by decide))
  rw [if_pos (by decide)]
  exact ⟨_,SqL.of e,_,rfl,_,SqL.of e,_,rfl,_,SqL.of e,_,rfl,Z,a,b,k,x,y,rfl,ht,hz,q⟩
 ·obtain ⟨k,rfl⟩:=len1 (hl (by decide))
  rw [if_neg (by decide),if_pos (by decide)]
  exact ⟨_,SqL.of e,_,rfl,Z,a,b,k,rfl,ht,hz,q⟩
 ·rw [if_neg (by decide),if_neg (by decide),if_pos (by decide)]
  exact ⟨Z,a,gl,b,g,rfl,ht,hz,hzg,e,gok.1,q⟩
 ·obtain ⟨k,rfl⟩:=len1 (hl (by decide))
  rw [if_neg (by decide),if_neg (by decide),if_neg (by decide),if_pos (by decide)]
  exact ⟨_,SqL.of e,_,rfl,Z,a,b,k,rfl,ht,hz,q⟩
 ·obtain ⟨k,x,y,rfl⟩:=len3 (hl (by decide))
  rw [if_neg (by decide),if_neg (by decide),if_neg (by decide),if_neg (by decide),if_pos (by decide)]
  exact ⟨_,SqL.of e,_,rfl,_,SqL.of e,_,rfl,_,SqL.of e,_,rfl,Z,a,b,k,x,y,rfl,ht,hz,q⟩
 ·obtain ⟨k,x,y,rfl⟩:=len3 (hl (by decide))
  rw [if_neg (by decide),if_neg (by decide),if_neg (by decide),if_neg (by decide),if_neg (by decide),if_pos (by decide)]
  exact ⟨_,SqL.of e,_,rfl,_,SqL.of e,_,rfl,_,SqL.of e,_,rfl,Z,a,b,k,x,y,rfl,ht,hz,q⟩
 ·obtain ⟨k,rfl⟩:=len1 (hl (by decide))
  rw [if_neg (by decide),if_neg (by decide),if_neg (by decide),if_neg (by decide),if_neg (by decide),if_neg (by decide)]
  exact ⟨_,SqL.of e,_,rfl,Z,a,b,k,rfl,ht,hz,q⟩
end
section
open KragNeutral (told)
theorem TripsAt.addZ {Z Z':Addr->Prop} {H:Hp} {l:Addr} {ts:List Trip} (h:TripsAt Z H l ts) (hz:∀ z,Z' z->Z z\/H z=none):TripsAt Z' H l ts:=by
 obtain ⟨z,as,e,p⟩:=h
 have nn:∀ {a:Addr} {o:HO},¬ Z a->H a=some o->¬ Z' a:=fun h1 h2 h3=>(hz _ h3).elim h1 fun h4=>by rw [h4] at h2;cases h2
 exact ⟨nn z e,as,e,Paired_map p fun a t ⟨z,e⟩=>⟨nn z e,e⟩⟩
theorem RowsAt.addZ {Z Z':Addr->Prop} {H:Hp} {l:Addr} {ts:List (List Nat)} (h:RowsAt Z H l ts) (hz:∀ z,Z' z->Z z\/H z=none):RowsAt Z' H l ts:=by
 obtain ⟨z,as,e,p⟩:=h
 have nn:∀ {a:Addr} {o:HO},¬ Z a->H a=some o->¬ Z' a:=fun h1 h2 h3=>(hz _ h3).elim h1 fun h4=>by rw [h4] at h2;cases h2
 exact ⟨nn z e,as,e,Paired_map p fun a t ⟨z,e⟩=>⟨nn z e,e⟩⟩
theorem ToldAt.addZ {Z Z':Addr->Prop} {C:Addr} {H:Hp} {a:Addr} {b:Krag.Book} (h:ToldAt Z C H a b) (hz:∀ z,Z' z->Z z\/H z=none):ToldAt Z' C H a b:=by
 obtain ⟨z,ok,dx,l1,l2,l3,e,t1,t2,t3⟩:=h
 exact ⟨fun h3=>(hz _ h3).elim z (fun h4=>by rw [h4] at e;cases e),ok,dx,l1,l2,l3,e,t1.addZ hz,t2.addZ hz,t3.addZ hz⟩
def sessF (tv:V) (bl hl:Addr):List (Str × V):=[("told",tv),("before",.ref bl),("behind",.ref hl)]
def BooksAt (Z:Addr->Prop) (CT:Addr) (H:Hp) (l:Addr) (bs:List Krag.Book):Prop:=∃ as:List Addr,H l=some (.lst (as.map V.ref))/\Paired (ToldAt Z CT H) as bs.reverse
structure WAt (Z:Addr->Prop) (CT:Addr) (H:Hp) (tv:V) (bl hl:Addr) (w:Krag.World):Prop where
 p:∃ a,tv=.ref a/\ToldAt Z CT H a w.p
 past:BooksAt Z CT H bl w.past
 next:BooksAt Z CT H hl w.next
 len:w.past.length+w.next.length<=20
def WO (Z:Addr->Prop) (CT:Addr) (H:Hp) (tv:V) (bl hl:Addr):Option Krag.World->Prop
 | none=>tv=.non/\H bl=some (.lst [])/\H hl=some (.lst [])
 | some w=>WAt Z CT H tv bl hl w
structure SessAt (Z:Addr->Prop) (CT CS fo:Addr) (H:Hp) (S:Addr) (w:Option Krag.World):Prop where
 zok:ZOk Z H
 zS:Z S
 zf:Z fo
 fS:fo ≠ S
 at_:∃ dx tv bl hl,H S=some (.ins CS dx (sessF tv bl hl))/\Z bl/\Z hl/\fo ≠ bl/\fo ≠ hl/\bl ≠ hl/\WO Z CT H tv bl hl w
theorem BooksAt.mono {Z:Addr->Prop} {CT:Addr} {H H':Hp} {l:Addr} {bs:List Krag.Book} (h:BooksAt Z CT H l bs) (s:SameZ Z H H') (e:H' l=H l):BooksAt Z CT H' l bs:=by
 obtain ⟨as,e1,p⟩:=h
 exact ⟨as,by rw [e];exact e1,Paired_map p fun a b t=>t.monoZ s⟩
theorem BooksAt.addZ {Z Z':Addr->Prop} {CT:Addr} {H:Hp} {l:Addr} {bs:List Krag.Book} (h:BooksAt Z CT H l bs) (hz:∀ z,Z' z->Z z\/H z=none):BooksAt Z' CT H l bs:=by
 obtain ⟨as,e1,p⟩:=h
 exact ⟨as,e1,Paired_map p fun a b t=>t.addZ hz⟩
theorem WO.mono {Z:Addr->Prop} {CT:Addr} {H H':Hp} {tv:V} {bl hl:Addr} {w:Option Krag.World} (h:WO Z CT H tv bl hl w) (s:SameZ Z H H') (e1:H' bl=H bl) (e2:H' hl=H hl):WO Z CT H' tv bl hl w:=by
 cases w with
 | none=>exact ⟨h.1,by rw [e1];exact h.2.1,by rw [e2];exact h.2.2⟩
 | some w=>
  obtain ⟨⟨a,ea,t⟩,h1,h2,h3⟩:=h
  exact ⟨⟨a,ea,t.monoZ s⟩,h1.mono s e1,h2.mono s e2,h3⟩
theorem at_of_z {Z:Addr->Prop} {H H':Hp} (z:ZOk Z H) (s:Same H H') {p:Addr} (h:Z p):H' p=H p:=by
 cases e:H p with
 | none=>exact absurd e (z p h)
 | some o=>exact s _ _ e
theorem SessAt.mono {Z:Addr->Prop} {CT CS fo:Addr} {H H':Hp} {S:Addr} {w:Option Krag.World} (h:SessAt Z CT CS fo H S w) (s:Same H H'):SessAt Z CT CS fo H' S w:=by
 obtain ⟨zok,zS,zf,fS,dx,tv,bl,hl,e,zb,zh,f1,f2,bh,wo⟩:=h
 exact ⟨zok.mono s,zS,zf,fS,dx,tv,bl,hl,s _ _ e,zb,zh,f1,f2,bh,wo.mono (s.z Z) (at_of_z zok s zb) (at_of_z zok s zh)⟩
theorem SessAt.found {Z:Addr->Prop} {CT CS fo:Addr} {H:Hp} {S:Addr} {w:Option Krag.World} (h:SessAt Z CT CS fo H S w) (o:HO):SessAt Z CT CS fo (upd H fo o) S w:=by
 obtain ⟨zok,zS,zf,fS,dx,tv,bl,hl,e,zb,zh,f1,f2,bh,wo⟩:=h
 refine ⟨fun z hz=>?_,zS,zf,fS,dx,tv,bl,hl,by rw [upd_ne (Ne.symm fS)];exact e,zb,zh,f1,f2,bh,wo.mono (fun b u hb hu=>?_) (upd_ne (Ne.symm f1)) (upd_ne (Ne.symm f2))⟩
 ·by_cases hf:z=fo
  ·rw [hf,upd_same];simp
  ·rw [upd_ne hf];exact zok z hz
 ·rw [upd_ne (fun z=>hb (by rw [z];exact zf))];exact hu
def SesQ (Z:Addr->Prop) (CT CS fo:Addr) (H:Hp) (S:Addr) (Q:VK) (w:Option Krag.World) (ans:List Int):Prop:=∀ p Z' H',H p=none->SameZ Z H H'->H' fo=H fo->(∀ z,Z' z->Z z\/H z=none)->SessAt Z' CT CS fo H' S w->H' p=some (.lst (ans.map V.int))->Q (.ref p) H'
theorem SesQ.ans {Z:Addr->Prop} {CT CS fo:Addr} {H:Hp} {S:Addr} {Q:VK} {w:Option Krag.World} {ans:List Int} (q:SesQ Z CT CS fo H S Q w ans) (h:SessAt Z CT CS fo H S w):AnsQ H Q ans:=fun p H' n s e=>
 q p Z H' n (s.z Z) (at_of_z h.zok s h.zf) (fun z hz=>.inl hz) (h.mono s) e
def spSessInit (CS:Addr):Sp:=fun vs H Q _=>∃ (x dx:Addr),vs=[.ref x]/\H x=some (.ins CS dx [])/\∀ bl hl H',H bl=none->H hl=none->bl ≠ hl->(∀ b o,b ≠ x->H b=some o->H' b=some o)->H' x=some (.ins CS dx (sessF .non bl hl))->H' bl=some (.lst [])->H' hl=some (.lst [])->Q .non H'
def begA (w:Option Krag.World) (n k:Nat):Option Krag.World × Krag.Ans:=Krag.act w (.begin_ n k)
def spBegin (CT CS:Addr):Sp:=fun vs H Q _=>∃ (Z:Addr->Prop) (fo S:Addr) (w:Option Krag.World) (n k:Nat),vs=[.ref S,.int (n:Int),.int (k:Int)]/\SessAt Z CT CS fo H S w/\SesQ Z CT CS fo H S Q (begA w n k).1 (told (begA w n k).2)
def spChange (CT CS:Addr):Sp:=fun vs H Q _=>∃ (Z:Addr->Prop) (fo S:Addr) (w:Krag.World) (c:Nat) (gl:Addr) (g:List Nat),vs=[.ref S,.int (c:Int),.ref gl]/\SessAt Z CT CS fo H S (some w)/\¬ Z gl/\H gl=some (.lst (nv g))/\GOk c g/\1<=c/\c<=7/\SesQ Z CT CS fo H S Q (some (w.does (callOf c g)).1) (told (w.does (callOf c g)).2)
def spSelf (CT CS:Addr) (c:Nat):Sp:=fun vs H Q _=>∃ (Z:Addr->Prop) (fo S:Addr) (w:Krag.World),vs=[.ref S]/\SessAt Z CT CS fo H S (some w)/\SesQ Z CT CS fo H S Q (some (w.does (callOf c [])).1) (told (w.does (callOf c [])).2)
def spAnswer (CT CS:Addr):Sp:=fun vs H Q _=>∃ (Z:Addr->Prop) (fo S:Addr) (w:Option Krag.World) (c:Nat) (gl:Addr) (g:List Nat),vs=[.ref S,.int (c:Int),.ref gl]/\SessAt Z CT CS fo H S w/\¬ Z gl/\H gl=some (.lst (nv g))/\GOk c g/\c<=30/\SesQ Z CT CS fo H S Q (Krag.act w (callOf c g)).1 (told (Krag.act w (callOf c g)).2)
theorem sc88:FnScope ["self"] ["self"] (defScope s_88):=⟨rfl,rfl,rfl,by decide +kernel,rfl,by decide +kernel,by decide +kernel⟩
theorem ok_Session_init (F:Fun K "__init__" "Session.__init__" s_88 f fd) (T:Txt K mg CT CS):FnOk P w K mg base CX0 1 f fd ["self"] (spSessInit CS):=by
 refine F.ok sc88 (fun vs H Q E h=>by obtain ⟨_,_,rfl,_⟩:=h;rfl) (fun cdv A outer s H vs Q E hr h=>?_)
 obtain ⟨x,dx,rfl,e,q⟩:=h
 refine ⟨_,(pss_cons (ps_fld (pv 0) pe_non rfl)
  (pss_cons (ps_fld (pv 0) (pe_lst pa_nil) rfl)
  (pss_one (ps_fld (pv 0) (pe_lst pa_nil) rfl)))),?_⟩
 walk_at "rd"
 have d1:(putF "told" V.non []).length<=1:=plS (Nat.le_refl _)
 refine ⟨CS,dx,_,e,T.clS,T.nT,by decide,sml' (by decide),fun bl nb=>?_⟩
 have d2:(putF "before" (V.ref bl) (putF "told" V.non [])).length<=2:=plS d1
 have hbx:bl ≠ x:=fun z=>by rw [z,upd_same] at nb;cases nb
 have nb':H bl=none:=by rw [upd_ne hbx] at nb;exact nb
 refine ⟨CS,dx,_,by rw [upd_ne (Ne.symm hbx),upd_same],T.clS,T.nB,Nat.lt_of_le_of_lt d1 (by decide),sml' (by decide),fun hl nh=>?_⟩
 have hhx:hl ≠ x:=fun z=>by rw [z,upd_same] at nh;cases nh
 rw [upd_ne hhx] at nh
 have hhb:hl ≠ bl:=fun z=>by rw [z,upd_same] at nh;cases nh
 rw [upd_ne hhb,upd_ne hhx] at nh
 refine ⟨CS,dx,_,by rw [upd_ne (Ne.symm hhx),upd_same],T.clS,T.nH,Nat.lt_of_le_of_lt d2 (by decide),?_⟩
 refine q bl hl _ nb' nh (Ne.symm hhb) (fun b o hb hu=>?_) upd_same ?_ ?_
 ·rw [upd_ne hb,upd_ne (ne_of_none hu nh),upd_ne hb,upd_ne (ne_of_none hu nb'),upd_ne hb];exact hu
 ·rw [upd_ne hbx,upd_ne (Ne.symm hhb),upd_ne hbx,upd_same]
 ·rw [upd_ne hhx,upd_same]
end
section
open KragNeutral (told)
theorem begA_no {w:Option Krag.World} {n k:Nat} (h:n=0\/4<n\/k=0\/4<k):begA w n k=(w,Krag.say (-22)):=if_pos h
theorem begA_yes {w:Option Krag.World} {n k:Nat} (h:¬ (n=0\/4<n\/k=0\/4<k)):begA w n k=(some ⟨⟨⟨n,[]⟩,k,[],[]⟩,[],[]⟩,Krag.say 0):=if_neg h
theorem ok_begin {n k:Nat} (h:¬ (n=0\/4<n\/k=0\/4<k)):BookOk ⟨⟨n,[]⟩,k,[],[]⟩:=
 ⟨by show 1<=n;omega,by show n<=4;omega,by show 1<=k;omega,by show k<=4;omega,Nat.zero_le _,(fun t ht=>by cases ht),Nat.zero_le _,(fun t ht=>by cases ht),Nat.zero_le _,(fun t ht=>by cases ht)⟩
theorem SameD.upd {S:Addr} {H H':Hp} {o:HO} (h:SameD S H H'):SameD S H (L2.upd H' S o):=fun b u hb e=>by rw [upd_ne hb];exact h b u hb e
theorem SameD.new {S:Addr} {H H':Hp} {p:Addr} {o:HO} (h:SameD S H H') (n:H' p=none):SameD S H (L2.upd H' p o):=fun b u hb e=>by rw [upd_ne (ne_of_none (h b u hb e) n)];exact h b u hb e
theorem none_backD {S:Addr} {H H':Hp} {p:Addr} (h:SameD S H H') (hS:H' S ≠ none) (n:H' p=none):H p=none:=by
 cases e:H p with
 | none=>rfl
 | some o=>
  by_cases hp:p=S
  ·rw [hp] at n;exact absurd n hS
  ·rw [h p o hp e] at n;cases n
theorem ne_of_none' {H:Hp} {a b:Addr} {o:HO} (h':H b=none) (h:H a=some o):b ≠ a:=fun z=>by rw [z,h] at h';cases h'
def addZ (Z:Addr->Prop) (bl hl:Addr):Addr->Prop:=fun z=>Z z\/z=bl\/z=hl
theorem sess_new {Z:Addr->Prop} {CT CS fo:Addr} {H H':Hp} {S:Addr} {w w':Option Krag.World} {dx:Addr} {tv:V} {bl hl:Addr} (hs:SessAt Z CT CS fo H S w) (sd:SameD S H H') (eS:H' S=some (.ins CS dx (sessF tv bl hl))) (nb:H bl=none) (nh:H hl=none) (hne:bl ≠ hl) {xs ys:List V} (eb:H' bl=some (.lst xs)) (eh:H' hl=some (.lst ys)) (wo:WO (addZ Z bl hl) CT H' tv bl hl w') :
  SessAt (addZ Z bl hl) CT CS fo H' S w':=by
 have some_of:∀ z,Z z->H' z ≠ none:=fun z hz e=>by
  by_cases h:z=S
  ·rw [h,eS] at e;cases e
  ·cases e2:H z with
   | none=>exact hs.zok z hz e2
   | some o=>rw [sd z o h e2] at e;cases e
 refine ⟨fun z hz=>?_,.inl hs.zS,.inl hs.zf,hs.fS,dx,tv,bl,hl,eS,.inr (.inl rfl),.inr (.inr rfl),fun z=>hs.zok fo hs.zf (by rw [z];exact nb),fun z=>hs.zok fo hs.zf (by rw [z];exact nh),hne,wo⟩
 rcases hz with hz | rfl | rfl
 ·exact some_of z hz
 ·rw [eb];simp
 ·rw [eh];simp
theorem addZ_new {Z:Addr->Prop} {H:Hp} {bl hl:Addr} (nb:H bl=none) (nh:H hl=none):∀ z,addZ Z bl hl z->Z z\/H z=none:=by
 rintro z (hz | rfl | rfl)
 ·exact .inl hz
 ·exact .inr nb
 ·exact .inr nh
theorem SesQ.fin {Z:Addr->Prop} {CT CS fo:Addr} {H H':Hp} {S:Addr} {Q:VK} {w w':Option Krag.World} {ans:List Int} {dx:Addr} {tv:V} {bl hl p:Addr} (q:SesQ Z CT CS fo H S Q w' ans) (hs:SessAt Z CT CS fo H S w) (sd:SameD S H H') (eS:H' S=some (.ins CS dx (sessF tv bl hl))) (nb:H bl=none) (nh:H hl=none) (hne:bl ≠ hl) {xs ys:List V} (eb:H' bl=some (.lst xs)) (eh:H' hl=some (.lst ys)) (wo:WO (addZ Z bl hl) CT H' tv bl hl w')
  (np:H p=none) (ep:H' p=some (.lst (ans.map V.int))):Q (.ref p) H':=by
 refine q p (addZ Z bl hl) H' np (fun b o hb e=>sd b o (fun z=>hb (by rw [z];exact hs.zS)) e) ?_ (addZ_new nb nh) (sess_new hs sd eS nb nh hne eb eh wo) ep
 cases e:H fo with
 | none=>exact absurd e (hs.zok fo hs.zf)
 | some o=>exact sd fo o hs.fS e
theorem sc90:FnScope ["self","worlds","prizes"] ["self","worlds","prizes"] (defScope s_90):=⟨rfl,rfl,rfl,by decide +kernel,rfl,by decide +kernel,by decide +kernel⟩
theorem ok90 (F:Fun K "begin" "Session.begin" s_90 f fd) (T:Txt K mg CT CS) (mkT:Maker P w K mg base CT "Told" 1 toldPs (spToldInit CT)):FnOk P w K mg base CX0 3 f fd ["self","worlds","prizes"] (spBegin CT CS):=by
 refine F.ok sc90 (fun vs H Q E h=>by obtain ⟨_,_,_,_,_,_,rfl,_⟩:=h;rfl) (fun cdv A outer s H vs Q E hr h=>?_)
 obtain ⟨Z,fo,S,w,n,k,rfl,hs,q⟩:=h
 refine ⟨_,(pss_cons (ps_if (PW.pt (pw_or (pt_not (pt_chain op_le op_le pe_int (pv 1) (pe_gi T.c_MOST_WORLDS))) (pw_or1 (pt_not (pt_chain op_le op_le pe_int (pv 2) (pe_gi T.c_MOST_PRIZES)))))) (pss_one (ps_ret (pe_lst (pa_cons (pe_gi T.c_NOT_RIGHT) pa_nil)))) pss_nil)
  (pss_cons (ps_fld (pv 0) (pe_mk mkT (rm hr) (pa_cons (pv 1) (pa_cons (pv 2) (pa_cons (pe_lst pa_nil) (pa_cons (pe_lst pa_nil) (pa_cons (pe_lst pa_nil) pa_nil)))))) rfl)
  (pss_cons (ps_fld (pv 0) (pe_lst pa_nil) rfl)
  (pss_cons (ps_fld (pv 0) (pe_lst pa_nil) rfl)
  (pss_one (ps_ret (pe_lst (pa_cons pe_int pa_nil)))))))),?_⟩
 walk_at "rd"
 by_cases hb:n=0\/4<n\/k=0\/4<k
 ·rw [begA_no hb] at q
  have qa:=q.ans hs
  have fin:1<=sizeLine/\∀ (p:Addr),H p=none->Q (V.ref p) (upd H p (HO.lst [V.int (-22)])):=⟨sml' (by decide),fun p hp=>qa.new (Same.refl _) hp rfl⟩
  by_cases h1:1<=n
  ·rw [if_pos (by omega)]
   by_cases h2:n<=4
   ·rw [if_neg (by omega)]
    by_cases h3:1<=k
    ·rw [if_pos (by omega),if_pos (by omega)]
     exact fin
    ·rw [if_neg (by omega)]
     exact fin
   ·rw [if_pos (by omega)]
    exact fin
  ·rw [if_neg (by omega)]
   exact fin
 ·rw [begA_yes hb] at q
  rw [if_pos (by omega),if_neg (by omega),if_pos (by omega),if_neg (by omega)]
  refine ⟨sml' (by decide),fun l1 n1=>⟨sml' (by decide),fun l2 n2=>⟨sml' (by decide),fun l3 n3 x dx nx nd hne=>?_⟩⟩⟩
  have s1:=Same.new (o:=.lst []) n1
  have s2:=s1.trans (Same.new (o:=.lst []) n2)
  have s3:=s2.trans (Same.new (o:=.lst []) n3)
  refine ⟨x,dx,n,k,l1,l2,l3,rfl,upd_same,rfl,?_⟩
  obtain ⟨s4,e4⟩:=ins_new (CT:=CT) (o:=.ins CT dx (toldF n k l1 l2 l3)) nx nd rfl
  have f1:=s4 _ _ ((Same.new n3) _ _ ((Same.new n2) _ _ (upd_same (H:=H) (a:=l1) (o:=.lst []))))
  have f2:=s4 _ _ ((Same.new n3) _ _ (upd_same (H:=upd H l1 (.lst [])) (a:=l2) (o:=.lst [])))
  have f3:=s4 _ _ (upd_same (H:=upd (upd H l1 (.lst [])) l2 (.lst [])) (a:=l3) (o:=.lst []))
  have s5:=s3.trans s4
  generalize upd (upd (upd (upd (upd (upd H l1 (.lst [])) l2 (.lst [])) l3 (.lst [])) dx (.own x)) x (.ins CT dx [])) x (.ins CT dx (toldF n k l1 l2 l3))=H5 at s4 e4 f1 f2 f3 s5 ⊢
  obtain ⟨dx0,tv,bl,hl,eS,zb,zh,g1,g2,bh,wo⟩:=hs.at_
  have eS5:=s5 _ _ eS
  have nx':=none_back s3 nx
  have n1':¬ Z l1:=hs.zok.not n1
  have n2':¬ Z l2:=hs.zok.not (none_back s1 n2)
  have n3':¬ Z l3:=hs.zok.not (none_back s2 n3)
  have zx:¬ Z x:=hs.zok.not nx'
  have nS:∀ {b:Addr},¬ Z b->b ≠ S:=fun hb z=>hb (by rw [z];exact hs.zS)
  refine ⟨CS,dx0,_,eS5,T.clS,T.nT,(show 3<1000 by decide),sml' (by decide),fun bl' nb=>?_⟩
  have d5:SameD S H (upd H5 S (.ins CS dx0 (sessF (.ref x) bl hl))):=(s5.d S).upd
  have nb':H bl'=none:=none_backD d5 (by rw [upd_same];simp) nb
  have bS:bl' ≠ S:=ne_of_none' nb' eS
  have nb5:H5 bl'=none:=by rw [upd_ne bS] at nb;exact nb
  refine ⟨CS,dx0,sessF (.ref x) bl hl,by rw [upd_ne (Ne.symm bS),upd_same];rfl,T.clS,T.nB,(show 3<1000 by decide),sml' (by decide),fun hl' nh=>?_⟩
  have d6:SameD S H (upd (upd (upd H5 S (.ins CS dx0 (sessF (.ref x) bl hl))) bl' (.lst [])) S (.ins CS dx0 (sessF (.ref x) bl' hl))):=(d5.new nb).upd
  have nh':H hl'=none:=none_backD d6 (by rw [upd_same];simp) nh
  have hS:hl' ≠ S:=ne_of_none' nh' eS
  have hb':hl' ≠ bl':=fun z=>by
   rw [z] at nh
   have:(upd (upd (upd H5 S (.ins CS dx0 (sessF (.ref x) bl hl))) bl' (.lst [])) S (.ins CS dx0 (sessF (.ref x) bl' hl))) bl'=some (.lst []):=by rw [upd_ne bS,upd_same]
   rw [show (upd (upd (upd H5 S (.ins CS dx0 (sessF (.ref x) bl hl))) bl' (.lst [])) S (.ins CS dx0 (sessF (.ref x) bl' hl))) bl'=none from nh] at this
   cases this
  have nh5:H5 hl'=none:=by rw [upd_ne hS,upd_ne hb',upd_ne hS] at nh;exact nh
  refine ⟨CS,dx0,sessF (.ref x) bl' hl,by rw [upd_ne (Ne.symm hS),upd_same];rfl,T.clS,T.nH,(show 3<1000 by decide),sml' (by decide),fun p np=>?_⟩
  have k6:SameD S H5 (upd (upd (upd H5 S (.ins CS dx0 (sessF (.ref x) bl hl))) bl' (.lst [])) S (.ins CS dx0 (sessF (.ref x) bl' hl))):=((((Same.refl H5).d S).upd).new nb).upd
  have d7:=(d6.new (o:=.lst []) nh).upd (o:=.ins CS dx0 (sessF (.ref x) bl' hl'))
  have k7:=(k6.new (o:=.lst []) nh).upd (o:=.ins CS dx0 (sessF (.ref x) bl' hl'))
  have eS7:=upd_same (H:=upd (upd (upd (upd H5 S (.ins CS dx0 (sessF (.ref x) bl hl))) bl' (.lst [])) S (.ins CS dx0 (sessF (.ref x) bl' hl))) hl' (.lst [])) (a:=S) (o:=.ins CS dx0 (sessF (.ref x) bl' hl'))
  have eb7:(upd (upd (upd (upd (upd H5 S (.ins CS dx0 (sessF (.ref x) bl hl))) bl' (.lst [])) S (.ins CS dx0 (sessF (.ref x) bl' hl))) hl' (.lst [])) S (.ins CS dx0 (sessF (.ref x) bl' hl'))) bl'=some (.lst []):=by
   rw [upd_ne bS,upd_ne (Ne.symm hb'),upd_ne bS,upd_same]
  have eh7:(upd (upd (upd (upd (upd H5 S (.ins CS dx0 (sessF (.ref x) bl hl))) bl' (.lst [])) S (.ins CS dx0 (sessF (.ref x) bl' hl))) hl' (.lst [])) S (.ins CS dx0 (sessF (.ref x) bl' hl'))) hl'=some (.lst []):=by
   rw [upd_ne hS,upd_same]
  change (upd (upd (upd (upd (upd H5 S (.ins CS dx0 (sessF (.ref x) bl hl))) bl' (.lst [])) S (.ins CS dx0 (sessF (.ref x) bl' hl))) hl' (.lst [])) S (.ins CS dx0 (sessF (.ref x) bl' hl'))) p=none at np
  show Q (.ref p) (upd (upd (upd (upd (upd (upd H5 S (.ins CS dx0 (sessF (.ref x) bl hl))) bl' (.lst [])) S (.ins CS dx0 (sessF (.ref x) bl' hl))) hl' (.lst [])) S (.ins CS dx0 (sessF (.ref x) bl' hl'))) p (.lst [V.int 0]))
  generalize (upd (upd (upd (upd (upd H5 S (.ins CS dx0 (sessF (.ref x) bl hl))) bl' (.lst [])) S (.ins CS dx0 (sessF (.ref x) bl' hl))) hl' (.lst [])) S (.ins CS dx0 (sessF (.ref x) bl' hl')))=H7 at d7 k7 eS7 eb7 eh7 np ⊢
  have s8:=Same.new (o:=.lst [V.int 0]) np
  have nz:∀ {b:Addr} {o:HO},¬ Z b->H5 b=some o->¬ addZ Z bl' hl' b:=fun hb e=>by
   rintro (h | rfl | rfl)
   ·exact hb h
   ·rw [nb5] at e;cases e
   ·rw [nh5] at e;cases e
  refine q.fin hs (d7.new np) (s8 _ _ eS7) nb' nh' (Ne.symm hb') (s8 _ _ eb7) (s8 _ _ eh7) ⟨⟨x,rfl,nz zx e4,ok_begin hb,dx,l1,l2,l3,s8 _ _ (k7 _ _ (nS zx) e4),⟨nz n1' f1,[],s8 _ _ (k7 _ _ (nS n1') f1),.nil⟩,⟨nz n2' f2,[],s8 _ _ (k7 _ _ (nS n2') f2),.nil⟩,⟨nz n3' f3,[],s8 _ _ (k7 _ _ (nS n3') f3),.nil⟩⟩,⟨[],s8 _ _ eb7,.nil⟩,⟨[],s8 _ _ eh7,.nil⟩,Nat.zero_le _⟩ (none_backD d7 (by rw [eS7];simp) np) upd_same
end
section
open KragNeutral (told)
theorem cut_last (xs:List V):cutV xs (some (-20)) none=xs.drop (xs.length - 20):=by
 unfold cutV
 rw [HT.sIx_none]
 have:HT.sIx xs.length 0 (some (-20))=xs.length - 20:=by
  show (if (-20:Int)<0 then ((-20:Int)+(xs.length:Int)).toNat else min (-20:Int).toNat xs.length)=_
  rw [if_pos (by decide)]
  omega
 rw [this,List.take_of_length_le (by simp)]
theorem ToldAt.keep {Z:Addr->Prop} {C S:Addr} {H H':Hp} {a:Addr} {b:Krag.Book} (h:ToldAt Z C H a b) (zS:Z S) (s:SameD S H H'):ToldAt Z C H' a b:=h.monoZ fun c o hc e=>s c o (fun z=>hc (by rw [z];exact zS)) e
theorem sc91:FnScope ["self","call","given","result"] ["self","call","given"] (defScope s_91):=⟨rfl,rfl,rfl,by decide +kernel,rfl,by decide +kernel,by decide +kernel⟩
theorem ok91 (F:Fun K "change" "Session.change" s_91 f fd) (T:Txt K mg CT CS) (c_76:Callee P w K mg base "changed" 5 ["told","call","given"] (spChanged CT)):FnOk P w K mg base CX0 6 f fd ["self","call","given"] (spChange CT CS):=by
 refine F.ok sc91 (fun vs H Q E h=>by obtain ⟨_,_,_,_,_,_,_,rfl,_⟩:=h;rfl) (fun cdv A outer s H vs Q E hr h=>?_)
 obtain ⟨Z,fo,S,w,c,gl,g,rfl,hs,zg,eg,gok,c1,c7,q⟩:=h
 refine ⟨_,(pss_cons (pS 3 sc91.nd (pe_fn c_76 (rm hr) (pa_cons (pe_fld (pv 0) rfl) (pa_cons (pv 1) (pa_cons (pv 2) pa_nil)))))
  (pss_cons (ps_if (pt_cmp (pc_notN (pe_ix ix_tup (pv 3) pe_int (fun _ _=>rfl)))) (pss_cons (ps_fld (pv 0) (pe_slice sl_list (pe_op op_cat (pe_fld (pv 0) rfl) (pe_lst (pa_cons (pe_fld (pv 0) rfl) pa_nil))) (po_some (pe_un un_neg (pe_gi T.c_MOST_KEPT))) po_none) rfl)
  (pss_cons (ps_fld (pv 0) (pe_lst pa_nil) rfl)
  (pss_one (ps_fld (pv 0) (pe_ix ix_tup (pv 3) pe_int (fun _ _=>rfl)) rfl)))) pss_nil)
  (pss_one (ps_ret (pe_ix ix_tup (pv 3) pe_int (fun _ _=>rfl)))))),?_⟩
 walk_at "rd"
 obtain ⟨dx0,tv,bl,hl,eS,zb,zh,g1,g2,bh,wo⟩:=hs.at_
 obtain ⟨⟨a,rfl,ta⟩,⟨as,eb,pb⟩,⟨bs,eh,ph⟩,hlen⟩:=id wo
 refine ⟨CS,dx0,_,eS,T.clS,T.nT,_,rfl,?_⟩
 rw [does_ch w c1 c7] at q
 refine ⟨Z,a,gl,w.p,c,g,rfl,ta,hs.zok,zg,eg,gok,c1,c7,fun p r tv H1 s1 nr e1 e2 hm=>?_⟩
 walk_at "rd"
 cases hch:(chB w.p c g).1 with
 | none=>
  rw [hch] at hm
  have hm:tv=.non:=hm
  subst hm
  have ew:chW w (chB w.p c g)=(w,(chB w.p c g).2):=by unfold chW;rw [hch]
  rw [ew] at q
  refine ⟨_,SqT.of e1,_,atI_nat (j:=1) rfl,?_⟩
  walk_at "rd"
  refine ⟨_,SqT.of e1,_,atI_nat (j:=0) rfl,?_⟩
  exact q.ans hs r H1 nr s1 e2
 | some b'=>
  rw [hch] at hm
  obtain ⟨a',rfl,ta'⟩:=hm
  have ew:chW w (chB w.p c g)=(⟨b',(w.p::w.past).take 20,[]⟩,(chB w.p c g).2):=by unfold chW;rw [hch];rfl
  rw [ew] at q
  refine ⟨_,SqT.of e1,_,atI_nat (j:=1) rfl,?_⟩
  walk_at "rd"
  have eS1:=s1 _ _ eS
  refine ⟨CS,dx0,_,eS1,T.clS,T.nB,_,rfl,CS,dx0,_,eS1,T.clS,T.nT,_,rfl,sml' (by decide),fun p0 n0=>?_⟩
  have s2:=s1.trans (Same.new (o:=.lst [V.ref a]) n0)
  have hl1:as.length<=20:=by rw [Paired_len pb,List.length_reverse];omega
  have eb1:=(Same.new (o:=.lst [V.ref a]) n0) _ _ (s1 _ _ eb)
  refine ⟨_,rfl,_,eb1,_,upd_same,sml' (by rw [List.length_map];simp only [List.length_cons,List.length_nil];omega),fun p1 n1=>⟨_,SqL.of upd_same,fun bl' nb=>?_⟩⟩
  have t3:=(Same.new (o:=.lst [V.ref a]) n0).trans (Same.new (o:=.lst (as.map V.ref++[V.ref a])) n1)
  have t4:=t3.trans (Same.new (o:=.lst (cutV (as.map V.ref++[V.ref a]) (some (-20)) none)) nb)
  have eb4:=upd_same (H:=upd (upd H1 p0 (.lst [V.ref a])) p1 (.lst (as.map V.ref++[V.ref a]))) (a:=bl') (o:=.lst (cutV (as.map V.ref++[V.ref a]) (some (-20)) none))
  have nb':H bl'=none:=none_back (s1.trans t3) nb
  have s4:=s1.trans t4
  generalize upd (upd (upd H1 p0 (.lst [V.ref a])) p1 (.lst (as.map V.ref++[V.ref a]))) bl' (.lst (cutV (as.map V.ref++[V.ref a]) (some (-20)) none))=H4 at t4 eb4 s4 ⊢
  have nS:∀ {b:Addr},¬ Z b->b ≠ S:=fun hb z=>hb (by rw [z];exact hs.zS)
  have bS:bl' ≠ S:=ne_of_none' nb' eS
  have pS:p ≠ S:=fun z=>by rw [z,eS1] at e1;cases e1
  have rS:r ≠ S:=ne_of_none' nr eS
  refine ⟨CS,dx0,_,s4 _ _ eS,T.clS,T.nB,(show 3<1000 by decide),sml' (by decide),fun hl' nh=>?_⟩
  change (upd H4 S (.ins CS dx0 (sessF (.ref a) bl' hl))) hl'=none at nh
  have d5:SameD S H (upd H4 S (.ins CS dx0 (sessF (.ref a) bl' hl))):=(s4.d S).upd
  have k5:SameD S H4 (upd H4 S (.ins CS dx0 (sessF (.ref a) bl' hl))):=((Same.refl H4).d S).upd
  have nh':H hl'=none:=none_backD d5 (by rw [upd_same];simp) nh
  have hS:hl' ≠ S:=ne_of_none' nh' eS
  have nh4:H4 hl'=none:=by rw [upd_ne hS] at nh;exact nh
  have hb':hl' ≠ bl':=fun z=>by rw [z,eb4] at nh4;cases nh4
  have d6:=d5.new (o:=.lst []) nh
  have k6:=k5.new (o:=.lst []) nh
  have eS6:(upd (upd H4 S (.ins CS dx0 (sessF (.ref a) bl' hl))) hl' (.lst [])) S=some (.ins CS dx0 (sessF (.ref a) bl' hl)):=by rw [upd_ne (Ne.symm hS),upd_same]
  have eh6:=upd_same (H:=upd H4 S (.ins CS dx0 (sessF (.ref a) bl' hl))) (a:=hl') (o:=.lst [])
  have d7:=d6.upd (o:=.ins CS dx0 (sessF (.ref a) bl' hl'))
  have k7:=k6.upd (o:=.ins CS dx0 (sessF (.ref a) bl' hl'))
  have d8:=d7.upd (o:=.ins CS dx0 (sessF (.ref a') bl' hl'))
  have k8:=k7.upd (o:=.ins CS dx0 (sessF (.ref a') bl' hl'))
  refine ⟨CS,dx0,_,eS6,T.clS,T.nH,(show 3<1000 by decide),_,SqT.of (k7 _ _ pS (t4 _ _ e1)),_,atI_nat (j:=1) rfl,CS,dx0,_,upd_same,T.clS,T.nT,(show 3<1000 by decide),_,SqT.of (k8 _ _ pS (t4 _ _ e1)),_,atI_nat (j:=0) rfl,?_⟩
  have nz:∀ {b:Addr} {o:HO},¬ Z b->H b=some o->¬ addZ Z bl' hl' b:=fun hb e=>by
   rintro (h | rfl | rfl)
   ·exact hb h
   ·rw [nb'] at e;cases e
   ·rw [nh'] at e;cases e
  have zz:∀ z,addZ Z bl' hl' z->Z z\/H z=none:=addZ_new nb' nh'
  have eb8:=k8 _ _ bS eb4
  have eh8:(upd (upd (upd (upd H4 S (.ins CS dx0 (sessF (.ref a) bl' hl))) hl' (.lst [])) S (.ins CS dx0 (sessF (.ref a) bl' hl'))) S (.ins CS dx0 (sessF (.ref a') bl' hl'))) hl'=some (.lst []):=by
   rw [upd_ne hS,upd_ne hS,upd_same]
  have nb1:H1 bl'=none:=none_back t3 nb
  have nh1:H1 hl'=none:=none_back t4 nh4
  have tnew:=(((ta'.addZ (addZ_new nb1 nh1)).mono t4).keep (S:=S) (.inl hs.zS) k8)
  have told_old:∀ x b,ToldAt Z CT H x b->ToldAt (addZ Z bl' hl') CT _ x b:=fun x b t=>(t.addZ zz).keep (S:=S) (.inl hs.zS) d8
  have pnew:Paired (ToldAt (addZ Z bl' hl') CT (upd (upd (upd (upd H4 S (.ins CS dx0 (sessF (.ref a) bl' hl))) hl' (.lst [])) S (.ins CS dx0 (sessF (.ref a) bl' hl'))) S (.ins CS dx0 (sessF (.ref a') bl' hl')))) ((as++[a]).drop ((as++[a]).length - 20)) ((w.p::w.past).take 20).reverse:=by
   have h1:Paired (ToldAt Z CT H) (as++[a]) (w.p::w.past).reverse:=by
    rw [List.reverse_cons]
    exact Paired_snoc pb ta
   have h2:=Paired_drop ((as++[a]).length - 20) h1
   rw [Paired_len h1,List.length_reverse,last_rev] at h2
   rw [Paired_len h1,List.length_reverse]
   exact Paired_map h2 told_old
  refine q.fin hs d8 upd_same nb' nh' (Ne.symm hb') eb8 eh8 ⟨⟨a',rfl,tnew⟩,⟨_,?_,pnew⟩,⟨[],eh8,.nil⟩,?_⟩ nr (k8 _ _ rS (t4 _ _ e2))
  ·refine eb8.trans ?_
   rw [cut_last,show as.map V.ref++[V.ref a]=(as++[a]).map V.ref by rw [List.map_append];rfl,List.length_map,List.map_drop]
  ·show ((w.p::w.past).take 20).length+0<=20
   rw [List.length_take]
   omega
end
section
open KragNeutral (told)
theorem Paired_unsnoc {α β:Type} {F:α->β->Prop}:∀ {l:List α} {m:List β} {b:β},Paired F l (m++[b])->∃ l' a,l=l'++[a]/\Paired F l' m/\F a b
 | _,[],b,.cons r .nil=>⟨[],_,rfl,.nil,r⟩
 | _,c::m,b,.cons r t=>by
  obtain ⟨l',a,e,p,q⟩:=Paired_unsnoc (m:=m) (b:=b) t
  exact ⟨_::l',a,by rw [e];rfl,.cons r p,q⟩
theorem SameZ.updz {Z:Addr->Prop} {H H':Hp} {p:Addr} {o:HO} (s:SameZ Z H H') (z:Z p):SameZ Z H (upd H' p o):=fun b u hb e=>by rw [upd_ne (fun q=>hb (by rw [q];exact z))];exact s b u hb e
theorem SameZ.refl {Z:Addr->Prop} {H:Hp}:SameZ Z H H:=fun b o _ e=>e
theorem SameZ.new {Z:Addr->Prop} {H H':Hp} {p:Addr} {o:HO} (s:SameZ Z H H') (n:H' p=none):SameZ Z H (upd H' p o):=fun b u hb e=>by rw [upd_ne (ne_of_none (s b u hb e) n)];exact s b u hb e
theorem back_no (w:Krag.World) (h:w.past=[]):w.does (callOf 8 [])=(w,Krag.say (-6)):=by
 show (match w.past with
   | []=>(w,Krag.say (-6))
   | x::r=>(⟨x,r,w.p::w.next⟩,Krag.say r.length))=_
 rw [h]
theorem back_yes (w:Krag.World) {x:Krag.Book} {r:List Krag.Book} (h:w.past=x::r):w.does (callOf 8 [])=(⟨x,r,w.p::w.next⟩,Krag.say r.length):=by
 show (match w.past with
   | []=>(w,Krag.say (-6))
   | x::r=>(⟨x,r,w.p::w.next⟩,Krag.say r.length))=_
 rw [h]
theorem again_no (w:Krag.World) (h:w.next=[]):w.does (callOf 9 [])=(w,Krag.say (-6)):=by
 show (match w.next with
   | []=>(w,Krag.say (-6))
   | x::r=>(⟨x,(w.p::w.past).take Krag.mostBack,r⟩,Krag.say r.length))=_
 rw [h]
theorem again_yes (w:Krag.World) {x:Krag.Book} {r:List Krag.Book} (h:w.next=x::r):w.does (callOf 9 [])=(⟨x,(w.p::w.past).take 20,r⟩,Krag.say r.length):=by
 show (match w.next with
   | []=>(w,Krag.say (-6))
   | x::r=>(⟨x,(w.p::w.past).take Krag.mostBack,r⟩,Krag.say r.length))=_
 rw [h]
 rfl
theorem SesQ.move {Z:Addr->Prop} {CT CS fo:Addr} {H H':Hp} {S:Addr} {Q:VK} {w:Option Krag.World} {w':Krag.World} {ans:List Int} {dx:Addr} {bl hl a p:Addr} {as bs:List Addr} (q:SesQ Z CT CS fo H S Q (some w') ans) (hs:SessAt Z CT CS fo H S w) (f1:fo ≠ bl) (f2:fo ≠ hl) (bh:bl ≠ hl) (zb:Z bl) (zh:Z hl) (s:SameZ Z H H') (fS:H' fo=H fo) (eS:H' S=some (.ins CS dx (sessF (.ref a) bl hl))) (eb:H' bl=some (.lst (as.map V.ref))) (eh:H' hl=some (.lst (bs.map V.ref)))
  (pz:∀ z,Z z->z=S\/z=bl\/z=hl\/H' z=H z) (ta:ToldAt Z CT H a w'.p) (pa:Paired (ToldAt Z CT H) as w'.past.reverse) (pb:Paired (ToldAt Z CT H) bs w'.next.reverse) (len:w'.past.length+w'.next.length<=20) (np:H' p=none) (np':H p=none) {xs:List V} (ex:xs=ans.map V.int):Q (.ref p) (upd H' p (.lst xs)):=by
 subst ex
 have s1:=Same.new (o:=.lst (ans.map V.int)) np
 have z':ZOk Z H':=fun z hz e=>by
  rcases pz z hz with rfl | rfl | rfl | h
  ·rw [eS] at e;cases e
  ·rw [eb] at e;cases e
  ·rw [eh] at e;cases e
  ·rw [h] at e;exact hs.zok z hz e
 refine q p Z _ np' (s.new np) ?_ (fun z hz=>.inl hz) (SessAt.mono ⟨z',hs.zS,hs.zf,hs.fS,dx,.ref a,bl,hl,eS,zb,zh,f1,f2,bh,⟨a,rfl,ta.monoZ s⟩,⟨as,eb,Paired_map pa fun a b t=>t.monoZ s⟩,⟨bs,eh,Paired_map pb fun a b t=>t.monoZ s⟩,len⟩ s1) upd_same
 rw [upd_ne (fun z=>hs.zok fo hs.zf (by rw [z];exact np'))]
 exact fS
theorem map_last (as:List Addr) (a:Addr):((as++[a]).map V.ref)[((as++[a]).map V.ref).length - 1]?=some (.ref a):=by
 rw [List.length_map,List.length_append,List.getElem?_map]
 simp
theorem map_dropLast (as:List Addr) (a:Addr):((as++[a]).map V.ref).dropLast=as.map V.ref:=by
 rw [List.map_append]
 exact List.dropLast_concat
theorem sc92:FnScope ["self"] ["self"] (defScope s_92):=⟨rfl,rfl,rfl,by decide +kernel,rfl,by decide +kernel,by decide +kernel⟩
theorem ok92 (F:Fun K "take_back" "Session.take_back" s_92 f fd) (T:Txt K mg CT CS):FnOk P w K mg base CX0 1 f fd ["self"] (spSelf CT CS 8):=by
 refine F.ok sc92 (fun vs H Q E h=>by obtain ⟨_,_,_,_,rfl,_⟩:=h;rfl) (fun cdv A outer s H vs Q E hr h=>?_)
 obtain ⟨Z,fo,S,w,rfl,hs,q⟩:=h
 refine ⟨_,(pss_cons (ps_if (pt_cmpR op_eq (pe_callB call_len_seq rfl T.b_len PySem.boot_len (pa_cons (pe_fld (pv 0) rfl) pa_nil)) pe_int (nomark _)) (pss_one (ps_ret (pe_lst (pa_cons (pe_gi T.c_NOTHING_THERE) pa_nil)))) pss_nil)
  (pss_cons (ps_expr (pe_bm PySem.F.plainAttrs_list PySem.F.slot_list_append PySem.F.type_list_append mt_append (pe_fld (pv 0) rfl) (pa_cons (pe_fld (pv 0) rfl) pa_nil)))
  (pss_cons (ps_fld (pv 0) (pe_bm0 PySem.F.plainAttrs_list PySem.F.slot_list_pop PySem.F.type_list_pop mt_pop (pe_fld (pv 0) rfl)) rfl)
  (pss_one (ps_ret (pe_lst (pa_cons (pe_callB call_len_seq rfl T.b_len PySem.boot_len (pa_cons (pe_fld (pv 0) rfl) pa_nil)) pa_nil))))))),?_⟩
 walk_at "rd"
 obtain ⟨dx0,tv,bl,hl,eS,zb,zh,g1,g2,bh,wo⟩:=hs.at_
 obtain ⟨⟨a,rfl,ta⟩,⟨as,eb,pb⟩,⟨bs,eh,ph⟩,hlen⟩:=id wo
 refine ⟨CS,dx0,_,eS,T.clS,T.nB,_,rfl,_,rfl,_,.inl (SqL.of eb),?_⟩
 have hbl:bl ≠ S:=fun z=>by rw [z,eS] at eb;cases eb
 have hhl:hl ≠ S:=fun z=>by rw [z,eS] at eh;cases eh
 rw [List.length_map,Paired_len pb,List.length_reverse]
 cases hp:w.past with
 | nil=>
  rw [if_pos (by simp)]
  rw [back_no w hp] at q
  exact ⟨sml' (by decide),fun p np=>(q.ans hs).new (Same.refl _) np rfl⟩
 | cons x r=>
  rw [if_neg (by simp;omega)]
  rw [back_yes w hp] at q
  rw [hp] at hlen
  rw [hp,List.reverse_cons] at pb
  obtain ⟨as',ax,rfl,pb',tx⟩:=Paired_unsnoc pb
  have hb20:bs.length<=20:=by rw [Paired_len ph,List.length_reverse];omega
  refine ⟨CS,dx0,_,eS,T.clS,T.nH,_,rfl,.inl ⟨rfl,_,SqL.of eh⟩,CS,dx0,_,eS,T.clS,T.nT,_,rfl,_,rfl,_,eh,sml (by rw [List.length_map];omega),?_⟩
  have eS1:(upd H hl (.lst (bs.map V.ref++[.ref a]))) S=some (.ins CS dx0 (sessF (.ref a) bl hl)):=by rw [upd_ne (Ne.symm hhl)];exact eS
  have eb1:(upd H hl (.lst (bs.map V.ref++[.ref a]))) bl=some (.lst ((as'++[ax]).map V.ref)):=by rw [upd_ne bh];exact eb
  refine ⟨CS,dx0,_,eS1,T.clS,T.nB,_,rfl,.inl ⟨rfl,_,SqL.of eb1⟩,_,rfl,_,eb1,_,map_last as' ax,?_⟩
  rw [map_dropLast]
  refine ⟨CS,dx0,sessF (.ref a) bl hl,by rw [upd_ne (Ne.symm hbl)];exact eS1,T.clS,T.nT,(show 3<1000 by decide),?_⟩
  refine ⟨CS,dx0,_,upd_same,T.clS,T.nB,_,rfl,_,rfl,_,.inl (SqL.of (by rw [upd_ne hbl,upd_same])),sml' (by decide),fun p np=>?_⟩
  change (upd (upd (upd H hl (.lst (bs.map V.ref++[.ref a]))) bl (.lst (as'.map V.ref))) S (.ins CS dx0 (sessF (.ref ax) bl hl))) p=none at np
  have pS:p ≠ S:=fun z=>by rw [z,upd_same] at np;cases np
  have pb2:p ≠ bl:=fun z=>by rw [z,upd_ne hbl,upd_same] at np;cases np
  have ph2:p ≠ hl:=fun z=>by rw [z,upd_ne hhl,upd_ne (Ne.symm bh),upd_same] at np;cases np
  refine SesQ.move (w':=⟨x,r,w.p::w.next⟩) (as:=as') (bs:=bs++[a]) q hs g1 g2 bh zb zh (((SameZ.refl.updz zh).updz zb).updz hs.zS) (by rw [upd_ne hs.fS,upd_ne g1,upd_ne g2]) upd_same (by rw [upd_ne hbl,upd_same]) (by rw [upd_ne hhl,upd_ne (Ne.symm bh),upd_same,List.map_append];rfl) (fun z hz=>?_) tx pb' ?_ ?_ np (by rw [upd_ne pS,upd_ne pb2,upd_ne ph2] at np;exact np) ?_
  ·by_cases h1:z=S
   ·exact .inl h1
   by_cases h2:z=bl
   ·exact .inr (.inl h2)
   by_cases h3:z=hl
   ·exact .inr (.inr (.inl h3))
   exact .inr (.inr (.inr (by rw [upd_ne h1,upd_ne h2,upd_ne h3])))
  ·rw [List.reverse_cons]
   exact Paired_snoc ph ta
  ·simp only [List.length_cons] at hlen ⊢
   omega
  ·rw [List.length_map,Paired_len pb',List.length_reverse]
   rfl
theorem sc93:FnScope ["self"] ["self"] (defScope s_93):=⟨rfl,rfl,rfl,by decide +kernel,rfl,by decide +kernel,by decide +kernel⟩
theorem ok93 (F:Fun K "do_again" "Session.do_again" s_93 f fd) (T:Txt K mg CT CS):FnOk P w K mg base CX0 1 f fd ["self"] (spSelf CT CS 9):=by
 refine F.ok sc93 (fun vs H Q E h=>by obtain ⟨_,_,_,_,rfl,_⟩:=h;rfl) (fun cdv A outer s H vs Q E hr h=>?_)
 obtain ⟨Z,fo,S,w,rfl,hs,q⟩:=h
 refine ⟨_,(pss_cons (ps_if (pt_cmpR op_eq (pe_callB call_len_seq rfl T.b_len PySem.boot_len (pa_cons (pe_fld (pv 0) rfl) pa_nil)) pe_int (nomark _)) (pss_one (ps_ret (pe_lst (pa_cons (pe_gi T.c_NOTHING_THERE) pa_nil)))) pss_nil)
  (pss_cons (ps_expr (pe_bm PySem.F.plainAttrs_list PySem.F.slot_list_append PySem.F.type_list_append mt_append (pe_fld (pv 0) rfl) (pa_cons (pe_fld (pv 0) rfl) pa_nil)))
  (pss_cons (ps_fld (pv 0) (pe_bm0 PySem.F.plainAttrs_list PySem.F.slot_list_pop PySem.F.type_list_pop mt_pop (pe_fld (pv 0) rfl)) rfl)
  (pss_one (ps_ret (pe_lst (pa_cons (pe_callB call_len_seq rfl T.b_len PySem.boot_len (pa_cons (pe_fld (pv 0) rfl) pa_nil)) pa_nil))))))),?_⟩
 walk_at "rd"
 obtain ⟨dx0,tv,bl,hl,eS,zb,zh,g1,g2,bh,wo⟩:=hs.at_
 obtain ⟨⟨a,rfl,ta⟩,⟨as,eb,pb⟩,⟨bs,eh,ph⟩,hlen⟩:=id wo
 refine ⟨CS,dx0,_,eS,T.clS,T.nH,_,rfl,_,rfl,_,.inl (SqL.of eh),?_⟩
 have hbl:bl ≠ S:=fun z=>by rw [z,eS] at eb;cases eb
 have hhl:hl ≠ S:=fun z=>by rw [z,eS] at eh;cases eh
 rw [List.length_map,Paired_len ph,List.length_reverse]
 cases hp:w.next with
 | nil=>
  rw [if_pos (by simp)]
  rw [again_no w hp] at q
  exact ⟨sml' (by decide),fun p np=>(q.ans hs).new (Same.refl _) np rfl⟩
 | cons x r=>
  rw [if_neg (by simp;omega)]
  rw [again_yes w hp] at q
  rw [hp] at hlen
  rw [hp,List.reverse_cons] at ph
  obtain ⟨bs',bx,rfl,ph',tx⟩:=Paired_unsnoc ph
  have hb20:as.length<=20:=by rw [Paired_len pb,List.length_reverse];omega
  refine ⟨CS,dx0,_,eS,T.clS,T.nB,_,rfl,.inl ⟨rfl,_,SqL.of eb⟩,CS,dx0,_,eS,T.clS,T.nT,_,rfl,_,rfl,_,eb,sml (by rw [List.length_map];omega),?_⟩
  have eS1:(upd H bl (.lst (as.map V.ref++[.ref a]))) S=some (.ins CS dx0 (sessF (.ref a) bl hl)):=by rw [upd_ne (Ne.symm hbl)];exact eS
  have eh1:(upd H bl (.lst (as.map V.ref++[.ref a]))) hl=some (.lst ((bs'++[bx]).map V.ref)):=by rw [upd_ne (Ne.symm bh)];exact eh
  refine ⟨CS,dx0,_,eS1,T.clS,T.nH,_,rfl,.inl ⟨rfl,_,SqL.of eh1⟩,_,rfl,_,eh1,_,map_last bs' bx,?_⟩
  rw [map_dropLast]
  refine ⟨CS,dx0,sessF (.ref a) bl hl,by rw [upd_ne (Ne.symm hhl)];exact eS1,T.clS,T.nT,(show 3<1000 by decide),?_⟩
  refine ⟨CS,dx0,_,upd_same,T.clS,T.nH,_,rfl,_,rfl,_,.inl (SqL.of (by rw [upd_ne hhl,upd_same])),sml' (by decide),fun p np=>?_⟩
  change (upd (upd (upd H bl (.lst (as.map V.ref++[.ref a]))) hl (.lst (bs'.map V.ref))) S (.ins CS dx0 (sessF (.ref bx) bl hl))) p=none at np
  have pS:p ≠ S:=fun z=>by rw [z,upd_same] at np;cases np
  have ph2:p ≠ hl:=fun z=>by rw [z,upd_ne hhl,upd_same] at np;cases np
  have pb2:p ≠ bl:=fun z=>by rw [z,upd_ne hbl,upd_ne bh,upd_same] at np;cases np
  refine SesQ.move (w':=⟨x,(w.p::w.past).take 20,r⟩) (as:=as++[a]) (bs:=bs') q hs g1 g2 bh zb zh (((SameZ.refl.updz zb).updz zh).updz hs.zS) (by rw [upd_ne hs.fS,upd_ne g2,upd_ne g1]) upd_same (by rw [upd_ne hbl,upd_ne bh,upd_same,List.map_append];rfl) (by rw [upd_ne hhl,upd_same]) (fun z hz=>?_) tx ?_ ph' ?_ np (by rw [upd_ne pS,upd_ne ph2,upd_ne pb2] at np;exact np) ?_
  ·by_cases h1:z=S
   ·exact .inl h1
   by_cases h2:z=bl
   ·exact .inr (.inl h2)
   by_cases h3:z=hl
   ·exact .inr (.inr (.inl h3))
   exact .inr (.inr (.inr (by rw [upd_ne h1,upd_ne h3,upd_ne h2])))
  ·show Paired _ _ ((w.p::w.past).take 20).reverse
   rw [List.take_of_length_le (by simp only [List.length_cons] at hlen ⊢;omega),List.reverse_cons]
   exact Paired_snoc pb ta
  ·show ((w.p::w.past).take 20).length+r.length<=20
   rw [List.length_take]
   simp only [List.length_cons] at hlen ⊢
   omega
  ·rw [List.length_map,Paired_len ph',List.length_reverse]
   rfl
theorem sc94:FnScope ["self","told","counts","rows"] ["self"] (defScope s_94):=⟨rfl,rfl,rfl,by decide +kernel,rfl,by decide +kernel,by decide +kernel⟩
theorem ok94 (F:Fun K "state" "Session.state" s_94 f fd) (T:Txt K mg CT CS):FnOk P w K mg base CX0 1 f fd ["self"] (spSelf CT CS 30):=by
 refine F.ok sc94 (fun vs H Q E h=>by obtain ⟨_,_,_,_,rfl,_⟩:=h;rfl) (fun cdv A outer s H vs Q E hr h=>?_)
 obtain ⟨Z,fo,S,w,rfl,hs,q⟩:=h
 refine ⟨_,(pss_cons (pS 1 sc94.nd (pe_fld (pv 0) rfl))
  (pss_cons (ps_setLc (i:=2) (own:=[("rows",3)]) rfl sc94.nd rfl rfl (sw_true rfl rfl rfl rfl) (pi_tup (pe_tup (pa_cons (pe_likelier T (pv 1)) (pa_cons (pe_lots T (pv 1)) (pa_cons (pe_rather T (pv 1)) (pa_cons (pe_fld (pv 0) rfl) (pa_cons (pe_fld (pv 0) rfl) pa_nil))))))) (blkOk_by (N:=["self","told","counts","rows"]) (sc:=defScope s_94) (by decide +kernel)) (fun _ _ _ _ _=>(pN 3 sc94.nd)) (fun _ _ _ _ _=>pts_nil) (fun _ _ _ _ _=>(pe_callB (call_len_seqB (K:=K) rfl) rfl T.b_len PySem.boot_len (pa_cons (pv 3) pa_nil))))
  (pss_one (ps_ret (pe_op op_cat (pe_lst (pa_cons (pe_worlds T (pv 1)) (pa_cons (pe_prizes T (pv 1)) pa_nil))) (pv 2)))))),?_⟩
 walk_at "rd"
 obtain ⟨dx0,tv,bl,hl,eS,zb,zh,g1,g2,bh,wo⟩:=hs.at_
 obtain ⟨⟨a,rfl,ta⟩,⟨as,eb,pb⟩,⟨bs,eh,ph⟩,hlen⟩:=id wo
 have qa:AnsQ H Q ((w.p.n:Int)::ni [w.p.prizes,w.p.worlds.told.length,w.p.lots.length,w.p.rather.length,w.past.length,w.next.length]):=q.ans hs
 refine ⟨CS,dx0,_,eS,T.clS,T.nT,_,rfl,?_⟩
 walk_at "rd"
 refine ⟨Z,w.p,H,ta,Same.refl _,fun l1 h1=>⟨Z,w.p,H,ta,Same.refl _,fun l2 h2=>⟨Z,w.p,H,ta,Same.refl _,fun l3 h3=>?_⟩⟩⟩
 refine ⟨CS,dx0,_,eS,T.clS,T.nB,_,rfl,CS,dx0,_,eS,T.clS,T.nH,_,rfl,sml' (by decide),fun t nt=>?_⟩
 walk_at "rd"
 have s1:=Same.new (o:=.tup [V.ref l1,V.ref l2,V.ref l3,V.ref bl,V.ref hl]) nt
 obtain ⟨_,as1,e1,p1⟩:=h1
 obtain ⟨_,as2,e2,p2⟩:=h2
 obtain ⟨_,as3,e3,p3⟩:=h3
 obtain ⟨lens,hlens⟩:∃ lens:List Nat,lens=[w.p.worlds.told.length,w.p.lots.length,w.p.rather.length,w.past.length,w.next.length]:=⟨_,rfl⟩
 have hl5:lens.length=5:=by rw [hlens];rfl
 have hpair:Paired (fun v n=>∃ p ys,v=V.ref p/\H p=some (.lst ys)/\ys.length=n) [V.ref l1,V.ref l2,V.ref l3,V.ref bl,V.ref hl] lens:=by
  rw [hlens]
  refine .cons ⟨_,_,rfl,e1,?_⟩ (.cons ⟨_,_,rfl,e2,?_⟩ (.cons ⟨_,_,rfl,e3,?_⟩ (.cons ⟨_,_,rfl,eb,?_⟩ (.cons ⟨_,_,rfl,eh,?_⟩ .nil))))
  ·rw [List.length_map,Paired_len p1];unfold likes;rw [List.length_map]
  ·rw [List.length_map,Paired_len p2]
  ·rw [List.length_map,Paired_len p3];unfold rathers;rw [List.length_map]
  ·rw [List.length_map,Paired_len pb,List.length_reverse]
  ·rw [List.length_map,Paired_len ph,List.length_reverse]
 refine ⟨⟨_,SqT.of upd_same⟩,fun D hD=>comp_of (yl_tup (SqT.of upd_same)) hD (fun i=>nv (lens.take i)) rfl (fun i hi=>?_) (fun i H2 v at2 y=>?_) (fun H2 s2 e=>?_)⟩
 ·rw [nv_length,List.length_take]
  exact sml (by omega)
 ·have hi:i<lens.length:=by rw [hl5];exact lt_of_get y
  obtain ⟨v',hv,p,ys,ev,ep,hy⟩:=Paired_get hpair (List.getElem?_eq_getElem hi)
  rw [y] at hv
  have hv:=Option.some.inj hv
  subst hv ev
  walk_at "rd"
  refine ⟨_,.inl (SqL.of (at2.same _ _ (s1 _ _ ep))),at2.yes (Same.refl _) ?_⟩
  rw [take_snoc (List.getElem?_eq_getElem hi),nv_snoc,hy]
 ·walk_at "rd"
  rw [show [V.ref l1,V.ref l2,V.ref l3,V.ref bl,V.ref hl].length=lens.length by rw [hl5];rfl,List.take_length] at e
  have s12:=s1.trans s2
  refine ⟨Z,w.p,ta.mono s12,Z,w.p,ta.mono s12,sml' (by decide),fun p3 n3=>?_⟩
  refine ⟨_,upd_same,_,(Same.new n3) _ _ e,sml' (by rw [nv_length,hl5];show 2+5<=1000000;decide),fun p4 n4=>?_⟩
  refine qa.new (s12.trans (Same.new n3)) n4 ?_
  rw [hlens]
  rfl
end
section
open KragNeutral (told)
theorem act_none (c:Nat) (g:List Nat) (h:1<=c):Krag.act none (callOf c g)=(none,Krag.say (-11)):=by
 unfold callOf
 split <;> first | omega | rfl
theorem act_some (w:Krag.World) (c:Nat) (g:List Nat) (h:1<=c):Krag.act (some w) (callOf c g)=(some (w.does (callOf c g)).1,(w.does (callOf c g)).2):=by
 unfold callOf
 split <;> first | omega | rfl
theorem d29:∀ c:Nat,c<30->c<10\/c=10\/c=11\/c=12\/c=13\/c=14\/c=15\/c=16\/c=17\/c=18\/c=19\/c=20\/c=21\/c=22\/c=23\/c=24\/c=25\/c=26\/c=27\/c=28\/c=29:=by decide +kernel
theorem does_ask (w:Krag.World) (c:Nat) (g:List Nat) (h:10<=c) (h2:c<=29):(w.does (callOf c g)).1=w/\told (w.does (callOf c g)).2=askB w.p c g:=by
 have hc:=(d29 c (Nat.lt_succ_of_le h2)).resolve_left (Nat.not_lt.mpr h)
 rcases hc with rfl | rfl | rfl | rfl | rfl | rfl | rfl | rfl | rfl | rfl | rfl | rfl | rfl | rfl | rfl | rfl | rfl | rfl | rfl | rfl <;> exact ⟨rfl,rfl⟩
theorem sc89:FnScope ["self","call","given"] ["self","call","given"] (defScope s_89):=⟨rfl,rfl,rfl,by decide +kernel,rfl,by decide +kernel,by decide +kernel⟩
theorem ok89 (F:Fun K "answer" "Session.answer" s_89 f fd) (T:Txt K mg CT CS)
  (m_begin:Method P w K mg base CS "begin" 3 ["self","worlds","prizes"] (spBegin CT CS))
  (m_change:Method P w K mg base CS "change" 6 ["self","call","given"] (spChange CT CS))
  (m_take_back:Method P w K mg base CS "take_back" 1 ["self"] (spSelf CT CS 8))
  (m_do_again:Method P w K mg base CS "do_again" 1 ["self"] (spSelf CT CS 9))
  (m_state:Method P w K mg base CS "state" 1 ["self"] (spSelf CT CS 30))
  (c_62:Callee P w K mg base "asked" 7 ["told","call","given"] (spAsked K CT))
  (c_87:Callee P w K mg base "recalled" 7 ["told","call","given"] (spRecalled CT)):FnOk P w K mg base CX0 8 f fd ["self","call","given"] (spAnswer CT CS):=by
 refine F.ok sc89 (fun vs H Q E h=>by obtain ⟨_,_,_,_,_,_,_,rfl,_⟩:=h;rfl) (fun cdv A outer s H vs Q E hr h=>?_)
 obtain ⟨Z,fo,S,w,c,gl,g,rfl,hs,zg,eg,gok,c30,q⟩:=h
 refine ⟨_,(pss_cons (ps_if (pt_cmpR op_eq (pv 1) (pe_gi T.c_BEGIN) (nomark _)) (pss_one (ps_ret (pe_mt T.clS m_begin (rm hr) (pv 0) (pa_cons (pe_ix ix_list (pv 2) pe_int (fun _ _=>rfl)) (pa_cons (pe_ix ix_list (pv 2) pe_int (fun _ _=>rfl)) pa_nil))))) pss_nil)
  (pss_cons (ps_if (pt_cmp (pc_isN (pe_fld (pv 0) rfl))) (pss_one (ps_ret (pe_lst (pa_cons (pe_gi T.c_BEFORE_BEGIN) pa_nil)))) pss_nil)
  (pss_cons (ps_if (pt_cmpR op_le (pv 1) (pe_gi T.c_UNRATHER) (nomark _)) (pss_one (ps_ret (pe_mt T.clS m_change (rm hr) (pv 0) (pa_cons (pv 1) (pa_cons (pv 2) pa_nil))))) pss_nil)
  (pss_cons (ps_if (pt_cmpR op_eq (pv 1) (pe_gi T.c_BACK) (nomark _)) (pss_one (ps_ret (pe_mt0 T.clS m_take_back (rm hr) (pv 0)))) pss_nil)
  (pss_cons (ps_if (pt_cmpR op_eq (pv 1) (pe_gi T.c_AGAIN) (nomark _)) (pss_one (ps_ret (pe_mt0 T.clS m_do_again (rm hr) (pv 0)))) pss_nil)
  (pss_cons (ps_if (pt_cmpR op_eq (pv 1) (pe_gi T.c_STATE) (nomark _)) (pss_one (ps_ret (pe_mt0 T.clS m_state (rm hr) (pv 0)))) pss_nil)
  (pss_cons (ps_if (pt_cmpR op_le (pv 1) (pe_gi T.c_SIDE) (nomark _)) (pss_one (ps_ret (pe_fn c_62 (rm hr) (pa_cons (pe_fld (pv 0) rfl) (pa_cons (pv 1) (pa_cons (pv 2) pa_nil)))))) pss_nil)
  (pss_one (ps_ret (pe_fn c_87 (rm hr) (pa_cons (pe_fld (pv 0) rfl) (pa_cons (pv 1) (pa_cons (pv 2) pa_nil))))))))))))),?_⟩
 walk_at "rd"
 obtain ⟨dx0,tv,bl,hl,eS,zb,zh,g1,g2,bh,wo⟩:=hs.at_
 have hl':=gok.2
 by_cases c0:c=0
 ·subst c0
  obtain ⟨n,k,rfl⟩:=len2 (hl' (by decide))
  rw [if_pos (by decide)]
  exact ⟨dx0,_,eS,rfl,_,SqL.of eg,_,rfl,_,SqL.of eg,_,rfl,Z,fo,S,w,n,k,rfl,hs,q⟩
 rw [if_neg (by omega)]
 refine ⟨CS,dx0,_,eS,T.clS,T.nT,_,rfl,?_⟩
 cases w with
 | none=>
  obtain ⟨rfl,_,_⟩:=id wo
  rw [if_pos rfl]
  rw [act_none c g (by omega)] at q
  exact ⟨sml' (by decide),fun p np=>(q.ans hs).new (Same.refl _) np rfl⟩
 | some w=>
  obtain ⟨⟨a,rfl,ta⟩,wb,wn,hlen⟩:=id wo
  rw [if_neg (fun z=>V.noConfusion z)]
  rw [act_some w c g (by omega)] at q
  by_cases c7:c<=7
  ·rw [if_pos (by omega)]
   exact ⟨dx0,_,eS,rfl,Z,fo,S,w,c,gl,g,rfl,hs,zg,eg,gok,by omega,c7,q⟩
  rw [if_neg (by omega)]
  by_cases c8:c=8
  ·subst c8
   rw [if_pos (by decide)]
   have:=len0 (hl' (by decide))
   subst this
   exact ⟨dx0,_,eS,rfl,Z,fo,S,w,rfl,hs,q⟩
  rw [if_neg (by omega)]
  by_cases c9:c=9
  ·subst c9
   rw [if_pos (by decide)]
   have:=len0 (hl' (by decide))
   subst this
   exact ⟨dx0,_,eS,rfl,Z,fo,S,w,rfl,hs,q⟩
  rw [if_neg (by omega)]
  by_cases c30':c=30
  ·subst c30'
   rw [if_pos (by decide)]
   have:=len0 (hl' (by decide))
   subst this
   exact ⟨dx0,_,eS,rfl,Z,fo,S,w,rfl,hs,q⟩
  rw [if_neg (by omega)]
  obtain ⟨d1,d2⟩:=does_ask w c g (by omega) (by omega)
  rw [d1,d2] at q
  have qa:=q.ans hs
  by_cases c26:c<=26
  ·rw [if_pos (by omega)]
   exact ⟨CS,dx0,_,eS,T.clS,T.nT,_,rfl,Z,a,gl,w.p,c,g,rfl,ta,eg,gok,by omega,c26,qa⟩
  ·rw [if_neg (by omega)]
   exact ⟨CS,dx0,_,eS,T.clS,T.nT,_,rfl,Z,a,gl,w.p,c,g,rfl,ta,eg,gok,by omega,by omega,qa⟩
end
section
open KragNeutral (told)
abbrev CG:=Nat × List Nat
def FlatOk (c:List (List Int)) (cg:CG):Prop:=flatC c=((cg.1:Int),ni cg.2)/\cg.1<31
def CallAt (H0 H:Hp) (a:Addr) (cg:CG):Prop:=H0 a=none/\∃ gl,H0 gl=none/\H a=some (.tup [.int (cg.1:Int),.ref gl])/\H gl=some (.lst (nv cg.2))
def CallAtD (D:Addr) (H0 H:Hp) (a:Addr) (cg:CG):Prop:=H0 a=none/\∃ gl,H0 gl=none/\gl ≠ D/\H a=some (.tup [.int (cg.1:Int),.ref gl])/\H gl=some (.lst (nv cg.2))
def CallsAt (H0 H:Hp) (p:Addr) (cgs:List CG):Prop:=H0 p=none/\∃ as:List Addr,H p=some (.lst (as.map V.ref))/\Paired (CallAt H0 H) as cgs
def spReadCalls (K:PySem.W.Frag):Sp:=fun vs H Q _=>∃ (l:Addr) (ns:List Int) (f:Nat) (raw:List (List (List Int))) (cgs:List CG),vs=[.ref l]/\SqL K H l (ns.map V.int)/\PyFlat.calls PyKrag.shape f ns=some raw/\Paired FlatOk raw cgs/\raw.length<=30/\∀ p H',Same H H'->CallsAt H H' p cgs->Q (.ref p) H'
theorem cut_mid (xs:List V) (i j:Nat) (h:i<=j) (hj:j<=xs.length):cutV xs (some (i:Int)) (some (j:Int))=(xs.drop i).take (j - i):=by
 unfold cutV
 rw [HT.sIx_nat,HT.sIx_nat,Nat.min_eq_left hj,Nat.min_eq_left (by omega)]
theorem drop_cons {α:Type} {l:List α} {i:Nat} {x:α} {r:List α} (h:l.drop i=x::r):i<l.length/\l[i]?=some x/\l.drop (i+1)=r/\r.length=l.length - i - 1:=by
 have h1:i<l.length:=by
  by_cases hi:i<l.length
  ·exact hi
  ·rw [List.drop_of_length_le (by omega)] at h;cases h
 rw [List.drop_eq_getElem_cons h1] at h
 injection h with e1 e2
 refine ⟨h1,by rw [List.getElem?_eq_getElem h1,e1],e2,?_⟩
 rw [<-e2,List.length_drop]
 omega
theorem sc1:FnScope ["numbers","found","place","call","size","start"] ["numbers"] (defScope s_1):=⟨rfl,rfl,rfl,by decide +kernel,rfl,by decide +kernel,by decide +kernel⟩
theorem ok1 (F:Fun K "read_calls" "read_calls" s_1 f fd) (T:Txt K mg CT CS) (c_0:Callee P w K mg base "has_row" 1 ["call"] spHasRow):FnOk P w K mg base CX0 2 f fd ["numbers"] (spReadCalls K):=by
 refine F.ok sc1 (fun vs H Q E h=>by obtain ⟨_,_,_,_,_,rfl,_⟩:=h;rfl) (fun cdv A outer s H vs Q E hr h=>?_)
 obtain ⟨l,ns,f0,raw,cgs,rfl,hl,hraw,pr,h30,q⟩:=h
 refine ⟨_,(pss_cons (pS 1 sc1.nd (pe_lst pa_nil))
  (pss_cons (pS 2 sc1.nd pe_int)
  (pss_cons (ps_while PassesOwn.never (pt_cmpR op_lt (pv 2) (pe_callB call_len_seq rfl T.b_len PySem.boot_len (pa_cons (pv 0) pa_nil)) (nomark _))
   (pss_cons (pS 3 sc1.nd (pe_ix ix_list (pv 0) (pv 2) (fun _ _=>rfl)))
  (pss_cons (pS 4 sc1.nd (pe_ix ix_tup (pe_gr T.m_COUNTS) (pv 3) (fun _ _=>rfl)))
  (pss_cons (pS 5 sc1.nd (pe_op op_add (pv 2) pe_int))
  (pss_cons (ps_if (pt_val (pe_fn c_0 (rm hr) (pa_cons (pv 3) pa_nil))) (pss_cons (pS 4 sc1.nd (pe_ix ix_list (pv 0) (pv 5) (fun _ _=>rfl)))
  (pss_one (pS 5 sc1.nd (pe_op op_add (pv 5) pe_int)))) pss_nil)
  (pss_cons (pS 2 sc1.nd (pe_op op_add (pv 5) (pv 4)))
  (pss_one (ps_expr (pe_bm PySem.F.plainAttrs_list PySem.F.slot_list_append PySem.F.type_list_append mt_append (pv 1) (pa_cons (pe_tup (pa_cons (pv 3) (pa_cons (pe_slice sl_list (pv 0) (po_some (pv 5)) (po_some (pv 2))) pa_nil))) pa_nil))))))))))
  (pss_one (ps_ret (pv 1)))))),?_⟩
 walk_at "rd"
 have hlenr:=Paired_len pr
 refine ⟨sml' (by decide),fun D nD=>?_⟩
 obtain ⟨Pw,hPw⟩:∃ Pw:Nat->L2.St->Hp->Prop,∀ m σ H',Pw m σ H' ↔ (Same H H'/\∃ (pl j g:Nat) (as:List Addr) (o3 o4 o5:Option V),σ=[some (.ref l),some (.ref D),some (.int (pl:Int)),o3,o4,o5]/\pl<=ns.length/\m=ns.length - pl/\j<=raw.length/\PyFlat.calls PyKrag.shape g (ns.drop pl)=some (raw.drop j)/\H' D=some (.lst (as.map V.ref))/\Paired (CallAtD D H H') as (cgs.take j)):=⟨_,fun _ _ _=>Iff.rfl⟩
 refine ⟨Pw,⟨_,(hPw _ _ _).mpr ⟨Same.new nD,0,0,f0,[],none,none,none,rfl,Nat.zero_le _,rfl,Nat.zero_le _,by simpa using hraw,upd_same,.nil⟩⟩,fun m σ H1 h=>?_⟩
 obtain ⟨s1,pl,j,g,as,o3,o4,o5,rfl,hpl,hm,hj,hcalls,hD,pa⟩:=(hPw _ _ _).mp h
 walk_at "rd"
 have hl1:=s1.seq hl
 refine ⟨_,.inl hl1,?_⟩
 rw [List.length_map]
 by_cases hlt:pl<ns.length
 ·rw [if_pos (by omega)]
  refine ⟨fun σ' H''=>∃ m',m'<m/\Pw m' σ' H'',fun σ' H'' h=>h,?_⟩
  have hne:ns.drop pl ≠ []:=fun z=>by have:=congrArg List.length z;rw [List.length_drop,List.length_nil] at this;omega
  obtain ⟨g',c,t,cs,e1,e2,e3⟩:=calls_cons hcalls hne
  obtain ⟨k,r,hk,hnsd,hcase⟩:=call_read e2
  obtain ⟨_,hat,hdr,hrl⟩:=drop_cons hnsd
  obtain ⟨hj2,hatc,hdc,_⟩:=drop_cons e1
  have hcg:∃ cg,cgs[j]?=some cg:=⟨_,List.getElem?_eq_getElem (by omega)⟩
  obtain ⟨cg,hcg⟩:=hcg
  obtain ⟨c',hc1,hc2,hc3⟩:=Paired_get pr hcg
  rw [hatc] at hc1
  have hc1:=Option.some.inj hc1
  subst hc1
  have hasl:as.length<=30:=by rw [Paired_len pa,List.length_take];omega
  have hatv:(ns.map V.int)[pl]?=some (V.int (k:Int)):=by rw [List.getElem?_map,hat];rfl
  have hcnt:(nv counts)[k]?=some (V.int ((counts.getD k 0:Nat):Int)):=nv_at (by exact hk)
  have fin:∀ (st:Nat) (sz:Nat) (o3 o4 o5:Option V),st+sz<=ns.length->pl<st->(k=cg.1)->(ns.drop st).take sz=ni cg.2->t=ns.drop (st+sz)->∀ (H2:Hp),Same H1 H2->∀ p2,H2 p2=none->∀ p3,(upd H2 p2 (.lst (nv cg.2))) p3=none ->
    ∃ m',m'<m/\Pw m' [some (.ref l),some (.ref D),some (.int ((st+sz:Nat):Int)),o3,o4,o5] (upd (upd (upd H2 p2 (.lst (nv cg.2))) p3 (.tup [.int (k:Int),.ref p2])) D (.lst (as.map V.ref++[.ref p3]))):=by
   intro st sz o3 o4 o5 h1 h2 h3 h4 h5 H2 s2 p2 n2 p3 n3
   have t2:=s2.trans (Same.new (o:=.lst (nv cg.2)) n2)
   have t3:=t2.trans (Same.new (o:=.tup [.int (k:Int),.ref p2]) n3)
   refine ⟨ns.length - (st+sz),by omega,(hPw _ _ _).mpr ⟨(s1.trans t3).put nD,st+sz,j+1,g',as++[p3],o3,o4,o5,rfl,h1,rfl,hj2,?_,by rw [upd_same,List.map_append];rfl,?_⟩⟩
   ·rw [<-h5,hdc];exact e3
   ·rw [take_snoc hcg]
    have dl:∀ a u,H1 a=some (.tup u)->a ≠ D:=fun a u e z=>by rw [z,hD] at e;cases e
    have ndD:H D=none:=nD
    have D1:∀ a,H a=none->H1 a=none->a ≠ D:=fun a _ n z=>by rw [z,hD] at n;cases n
    have p2D:p2 ≠ D:=fun z=>by rw [z,s2 _ _ hD] at n2;cases n2
    have p3D:p3 ≠ D:=fun z=>by rw [z,t2 _ _ hD] at n3;cases n3
    refine Paired_snoc (Paired_map pa fun a cg' ⟨na,gl,ngl,gD,ea,eg⟩=>?_) ⟨none_back (s1.trans t2) n3,p2,none_back (s1.trans s2) n2,p2D,?_,?_⟩
    ·exact ⟨na,gl,ngl,gD,by rw [upd_ne (dl a _ ea)];exact t3 _ _ ea,by rw [upd_ne gD];exact t3 _ _ eg⟩
    ·rw [upd_ne p3D,upd_same,h3]
    ·rw [upd_ne p2D,upd_ne (ne_of_none upd_same n3),upd_same]
  refine ⟨_,hl1,_,atI_nat hatv,?_⟩
  walk_at "rd"
  intro ca hca
  refine ⟨_,hca H1,_,atI_nat hcnt,k,rfl,_,rfl,?_⟩
  rcases hcase with ⟨hrow,hc,ec,et⟩ | ⟨hrow,m2,r2,er,hm2,ec,et⟩
  ·rw [hrow,if_neg (by simp)]
   walk_at "rd"
   rw [ec] at hc2
   have hc2:((k:Int),r.take (counts.getD k 0))=((cg.1:Int),ni cg.2):=hc2
   obtain ⟨hc4,hc5⟩:=Prod.mk.inj hc2
   have hkk:k=cg.1:=by omega
   refine ⟨.inl ⟨rfl,_,SqL.of hD⟩,_,hl1,fun p2 n2=>⟨sml' (by decide),fun p3 n3=>?_⟩⟩
   have ecut:cutV (ns.map V.int) (some ((pl:Int)+1)) (some ((pl:Int)+1+((counts.getD k 0:Nat):Int)))=nv cg.2:=by
    rw [show (pl:Int)+1=((pl+1:Nat):Int) by omega,show ((pl+1:Nat):Int)+((counts.getD k 0:Nat):Int)=((pl+1+counts.getD k 0:Nat):Int) by omega,cut_mid _ _ _ (by omega) (by rw [List.length_map];omega),<-List.map_drop,<-List.map_take,hdr,Nat.add_sub_cancel_left,hc5,ni_map]
   rw [ecut] at n3 ⊢
   have D3:(upd (upd H1 p2 (.lst (nv cg.2))) p3 (.tup [.int (k:Int),.ref p2])) D=some (.lst (as.map V.ref)):=(Same.new n3) _ _ ((Same.new n2) _ _ hD)
   refine ⟨_,D3,sml (by rw [List.length_map];omega),?_⟩
   rw [show (pl:Int)+1+((counts.getD k 0:Nat):Int)=((pl+1+counts.getD k 0:Nat):Int) by omega]
   exact fin (pl+1) (counts.getD k 0) _ _ _ (by omega) (by omega) hkk (by rw [hdr,hc5]) (by rw [et,<-hdr,List.drop_drop]) H1 (Same.refl _) p2 n2 p3 n3
  ·rw [hrow,if_pos rfl]
   walk_at "rd"
   rw [ec] at hc2
   have hc2:((k:Int),r2.take m2)=((cg.1:Int),ni cg.2):=hc2
   obtain ⟨hc4,hc5⟩:=Prod.mk.inj hc2
   have hkk:k=cg.1:=by omega
   rw [er] at hdr
   obtain ⟨hp1,hat2,hdr2,hrl2⟩:=drop_cons hdr
   have hatv2:(ns.map V.int)[pl+1]?=some (V.int (m2:Int)):=by rw [List.getElem?_map,hat2];rfl
   refine ⟨_,hl1,_,at_of (j:=pl+1) (by omega) hatv2,_,rfl,.inl ⟨rfl,_,SqL.of hD⟩,_,hl1,fun p2 n2=>⟨sml' (by decide),fun p3 n3=>?_⟩⟩
   have ecut:cutV (ns.map V.int) (some ((pl:Int)+1+1)) (some ((pl:Int)+1+1+(m2:Int)))=nv cg.2:=by
    rw [show (pl:Int)+1+1=((pl+1+1:Nat):Int) by omega,show ((pl+1+1:Nat):Int)+(m2:Int)=((pl+1+1+m2:Nat):Int) by omega,cut_mid _ _ _ (by omega) (by rw [List.length_map];omega),<-List.map_drop,<-List.map_take,hdr2,Nat.add_sub_cancel_left,hc5,ni_map]
   rw [ecut] at n3 ⊢
   have D3:(upd (upd H1 p2 (.lst (nv cg.2))) p3 (.tup [.int (k:Int),.ref p2])) D=some (.lst (as.map V.ref)):=(Same.new n3) _ _ ((Same.new n2) _ _ hD)
   refine ⟨_,D3,sml (by rw [List.length_map];omega),?_⟩
   rw [show (pl:Int)+1+1+(m2:Int)=((pl+1+1+m2:Nat):Int) by omega]
   exact fin (pl+1+1) m2 _ _ _ (by omega) (by omega) hkk (by rw [hdr2,hc5]) (by rw [et,<-hdr2,List.drop_drop]) H1 (Same.refl _) p2 n2 p3 n3
 ·rw [if_neg (by omega)]
  have e:pl=ns.length:=by omega
  rw [e,List.drop_length,calls_nil] at hcalls
  have e2:raw.drop j=[]:=(Option.some.inj hcalls).symm
  have e3:j=raw.length:=by
   have:=congrArg List.length e2
   rw [List.length_drop,List.length_nil] at this
   omega
  rw [e3,hlenr,List.take_length] at pa
  exact q D H1 s1 ⟨nD,as,hD,Paired_map pa fun a cg ⟨h1,gl,h2,_,h3⟩=>⟨h1,gl,h2,h3⟩⟩
end
section
open KragNeutral (told)
def runC:Option Krag.World->List CG->List Int
 | _,[]=>[]
 | s,cg::r=>(((told (Krag.act s (callOf cg.1 cg.2)).2).length:Nat):Int)::(told (Krag.act s (callOf cg.1 cg.2)).2++runC (Krag.act s (callOf cg.1 cg.2)).1 r)
def stC:Option Krag.World->List CG->Option Krag.World
 | s,[]=>s
 | s,cg::r=>stC (Krag.act s (callOf cg.1 cg.2)).1 r
theorem runC_append:∀ (s:Option Krag.World) (l m:List CG),runC s (l++m)=runC s l++runC (stC s l) m
 | s,[],m=>rfl
 | s,cg::l,m=>by
  show _::(_++runC _ (l++m))=_::(_++runC _ l)++runC _ m
  rw [runC_append _ l m,List.cons_append,List.append_assoc]
  rfl
theorem stC_append:∀ (s:Option Krag.World) (l m:List CG),stC s (l++m)=stC (stC s l) m
 | s,[],m=>rfl
 | s,cg::l,m=>stC_append _ l m
theorem runC_snoc (s:Option Krag.World) (l:List CG) (cg:CG):runC s (l++[cg])=(runC s l++[(((told (Krag.act (stC s l) (callOf cg.1 cg.2)).2).length:Nat):Int)])++told (Krag.act (stC s l) (callOf cg.1 cg.2)).2:=by
 rw [runC_append,List.append_assoc]
 show _++_::(_++[])=_
 rw [List.append_nil]
 rfl
theorem stC_snoc (s:Option Krag.World) (l:List CG) (cg:CG):stC s (l++[cg])=(Krag.act (stC s l) (callOf cg.1 cg.2)).1:=stC_append s l [cg]
theorem runC_take (s:Option Krag.World) (l:List CG) (i:Nat):(runC s (l.take i)).length<=(runC s l).length:=by
 have:=runC_append s (l.take i) (l.drop i)
 rw [List.take_append_drop] at this
 rw [this,List.length_append]
 omega
theorem nat_of {z:Int} (h:KragNeutral.natural z 32=true):∃ n:Nat,z=(n:Int):=by
 unfold KragNeutral.natural at h
 rw [Bool.and_eq_true,decide_eq_true_eq] at h
 exact ⟨z.toNat,by omega⟩
theorem nats_of {l:List Int} (h:l.all (fun z=>KragNeutral.natural z 32)=true):∃ g:List Nat,l=ni g:=by
 induction l with
 | nil=>exact ⟨[],rfl⟩
 | cons z l ih=>
  rw [List.all_cons,Bool.and_eq_true] at h
  obtain ⟨n,rfl⟩:=nat_of h.1
  obtain ⟨g,rfl⟩:=ih h.2
  exact ⟨n::g,rfl⟩
theorem toNat_ni (g:List Nat):(ni g).map Int.toNat=g:=by
 unfold ni
 rw [List.map_map]
 exact (List.map_congr_left fun n _=>Int.toNat_natCast n).trans (List.map_id g)
theorem il0 {l:List Int} (h:l.length=0):l=[]:=List.length_eq_zero_iff.mp h
theorem il1 {l:List Int} (h:l.length=1):∃ a,l=[a]:=List.length_eq_one_iff.mp h
theorem il2 {l:List Int} (h:l.length=2):∃ a b,l=[a,b]:=by
 match l,h with
 | [a,b],_=>exact ⟨a,b,rfl⟩
theorem il3 {l:List Int} (h:l.length=3):∃ a b c,l=[a,b,c]:=by
 match l,h with
 | [a,b,c],_=>exact ⟨a,b,c,rfl⟩
def Good (c:List (List Int)) (cg:CG):Prop:=FlatOk c cg/\GOk cg.1 cg.2/\KragNeutral.call (PyKrag.whole c)=callOf cg.1 cg.2
theorem good0 {q:List Int} (hl:q.length=2) (h:KragNeutral.asked1 (PyKrag.whole [((0:Nat):Int)::q])=true):∃ cg:CG,Good [((0:Nat):Int)::q] cg:=by
 obtain ⟨a0,a1,rfl⟩:=il2 hl
 have h:(KragNeutral.natural a0 32 && KragNeutral.natural a1 32)=true:=h
 rw [Bool.and_eq_true] at h
 obtain ⟨x0,rfl⟩:=nat_of h.1
 obtain ⟨x1,rfl⟩:=nat_of h.2
 exact ⟨(0,[x0,x1]),⟨rfl,by show 0<31;decide⟩,⟨by show 2<=255;decide,fun _=>rfl⟩,rfl⟩
theorem good1 {q:List Int} (hl:q.length=3) (h:KragNeutral.asked1 (PyKrag.whole [((1:Nat):Int)::q])=true):∃ cg:CG,Good [((1:Nat):Int)::q] cg:=by
 obtain ⟨a0,a1,a2,rfl⟩:=il3 hl
 have h:(KragNeutral.natural a0 32 && KragNeutral.natural a1 32 && KragNeutral.natural a2 32)=true:=h
 rw [Bool.and_eq_true,Bool.and_eq_true] at h
 obtain ⟨x0,rfl⟩:=nat_of h.1.1
 obtain ⟨x1,rfl⟩:=nat_of h.1.2
 obtain ⟨x2,rfl⟩:=nat_of h.2
 exact ⟨(1,[x0,x1,x2]),⟨rfl,by show 1<31;decide⟩,⟨by show 3<=255;decide,fun _=>rfl⟩,rfl⟩
theorem good2 {q:List Int} (hl:q.length=1) (h:KragNeutral.asked1 (PyKrag.whole [((2:Nat):Int)::q])=true):∃ cg:CG,Good [((2:Nat):Int)::q] cg:=by
 obtain ⟨a0,rfl⟩:=il1 hl
 have h:(KragNeutral.natural a0 32)=true:=h
 obtain ⟨x0,rfl⟩:=nat_of h
 exact ⟨(2,[x0]),⟨rfl,by show 2<31;decide⟩,⟨by show 1<=255;decide,fun _=>rfl⟩,rfl⟩
theorem good3 {q:List Int} (h:KragNeutral.asked1 (PyKrag.whole [[((3:Nat):Int)],q])=true):∃ cg:CG,Good [[((3:Nat):Int)],q] cg:=by
 have h:(q.all (fun z=>KragNeutral.natural z 32) && decide (q.length<256))=true:=h
 rw [Bool.and_eq_true,decide_eq_true_eq] at h
 obtain ⟨g,rfl⟩:=nats_of h.1
 have hg:=h.2
 rw [ni_length] at hg
 refine ⟨(3,g),⟨rfl,by show 3<31;decide⟩,⟨by show g.length<=255;omega,fun z=>absurd z (by show ¬ hasRow ((3:Nat):Int)=false;decide)⟩,?_⟩
 show Krag.Call.lot ((ni g).map Int.toNat)=_
 rw [toNat_ni]
 rfl
theorem good4 {q:List Int} (hl:q.length=1) (h:KragNeutral.asked1 (PyKrag.whole [((4:Nat):Int)::q])=true):∃ cg:CG,Good [((4:Nat):Int)::q] cg:=by
 obtain ⟨a0,rfl⟩:=il1 hl
 have h:(KragNeutral.natural a0 32)=true:=h
 obtain ⟨x0,rfl⟩:=nat_of h
 exact ⟨(4,[x0]),⟨rfl,by show 4<31;decide⟩,⟨by show 1<=255;decide,fun _=>rfl⟩,rfl⟩
theorem good5 {q:List Int} (hl:q.length=3) (h:KragNeutral.asked1 (PyKrag.whole [((5:Nat):Int)::q])=true):∃ cg:CG,Good [((5:Nat):Int)::q] cg:=by
 obtain ⟨a0,a1,a2,rfl⟩:=il3 hl
 have h:(KragNeutral.natural a0 32 && KragNeutral.natural a1 32 && KragNeutral.natural a2 32)=true:=h
 rw [Bool.and_eq_true,Bool.and_eq_true] at h
 obtain ⟨x0,rfl⟩:=nat_of h.1.1
 obtain ⟨x1,rfl⟩:=nat_of h.1.2
 obtain ⟨x2,rfl⟩:=nat_of h.2
 exact ⟨(5,[x0,x1,x2]),⟨rfl,by show 5<31;decide⟩,⟨by show 3<=255;decide,fun _=>rfl⟩,rfl⟩
theorem good6 {q:List Int} (hl:q.length=3) (h:KragNeutral.asked1 (PyKrag.whole [((6:Nat):Int)::q])=true):∃ cg:CG,Good [((6:Nat):Int)::q] cg:=by
 obtain ⟨a0,a1,a2,rfl⟩:=il3 hl
 have h:(KragNeutral.natural a0 32 && KragNeutral.natural a1 32 && KragNeutral.natural a2 32)=true:=h
 rw [Bool.and_eq_true,Bool.and_eq_true] at h
 obtain ⟨x0,rfl⟩:=nat_of h.1.1
 obtain ⟨x1,rfl⟩:=nat_of h.1.2
 obtain ⟨x2,rfl⟩:=nat_of h.2
 exact ⟨(6,[x0,x1,x2]),⟨rfl,by show 6<31;decide⟩,⟨by show 3<=255;decide,fun _=>rfl⟩,rfl⟩
theorem good7 {q:List Int} (hl:q.length=1) (h:KragNeutral.asked1 (PyKrag.whole [((7:Nat):Int)::q])=true):∃ cg:CG,Good [((7:Nat):Int)::q] cg:=by
 obtain ⟨a0,rfl⟩:=il1 hl
 have h:(KragNeutral.natural a0 32)=true:=h
 obtain ⟨x0,rfl⟩:=nat_of h
 exact ⟨(7,[x0]),⟨rfl,by show 7<31;decide⟩,⟨by show 1<=255;decide,fun _=>rfl⟩,rfl⟩
theorem good8 {q:List Int} (hl:q.length=0) (h:KragNeutral.asked1 (PyKrag.whole [((8:Nat):Int)::q])=true):∃ cg:CG,Good [((8:Nat):Int)::q] cg:=by
 have e:=il0 hl
 subst e
 exact ⟨(8,[]),⟨rfl,by show 8<31;decide⟩,⟨by show 0<=255;decide,fun _=>rfl⟩,rfl⟩
theorem good9 {q:List Int} (hl:q.length=0) (h:KragNeutral.asked1 (PyKrag.whole [((9:Nat):Int)::q])=true):∃ cg:CG,Good [((9:Nat):Int)::q] cg:=by
 have e:=il0 hl
 subst e
 exact ⟨(9,[]),⟨rfl,by show 9<31;decide⟩,⟨by show 0<=255;decide,fun _=>rfl⟩,rfl⟩
theorem good10 {q:List Int} (hl:q.length=0) (h:KragNeutral.asked1 (PyKrag.whole [((10:Nat):Int)::q])=true):∃ cg:CG,Good [((10:Nat):Int)::q] cg:=by
 have e:=il0 hl
 subst e
 exact ⟨(10,[]),⟨rfl,by show 10<31;decide⟩,⟨by show 0<=255;decide,fun _=>rfl⟩,rfl⟩
theorem good11 {q:List Int} (hl:q.length=0) (h:KragNeutral.asked1 (PyKrag.whole [((11:Nat):Int)::q])=true):∃ cg:CG,Good [((11:Nat):Int)::q] cg:=by
 have e:=il0 hl
 subst e
 exact ⟨(11,[]),⟨rfl,by show 11<31;decide⟩,⟨by show 0<=255;decide,fun _=>rfl⟩,rfl⟩
theorem good12 {q:List Int} (hl:q.length=0) (h:KragNeutral.asked1 (PyKrag.whole [((12:Nat):Int)::q])=true):∃ cg:CG,Good [((12:Nat):Int)::q] cg:=by
 have e:=il0 hl
 subst e
 exact ⟨(12,[]),⟨rfl,by show 12<31;decide⟩,⟨by show 0<=255;decide,fun _=>rfl⟩,rfl⟩
theorem good13 {q:List Int} (h:KragNeutral.asked1 (PyKrag.whole [[((13:Nat):Int)],q])=true):∃ cg:CG,Good [[((13:Nat):Int)],q] cg:=by
 have h:(q.all (fun z=>KragNeutral.natural z 32) && decide (q.length<256))=true:=h
 rw [Bool.and_eq_true,decide_eq_true_eq] at h
 obtain ⟨g,rfl⟩:=nats_of h.1
 have hg:=h.2
 rw [ni_length] at hg
 refine ⟨(13,g),⟨rfl,by show 13<31;decide⟩,⟨by show g.length<=255;omega,fun z=>absurd z (by show ¬ hasRow ((13:Nat):Int)=false;decide)⟩,?_⟩
 show Krag.Call.fits ((ni g).map Int.toNat)=_
 rw [toNat_ni]
 rfl
theorem good14 {q:List Int} (hl:q.length=1) (h:KragNeutral.asked1 (PyKrag.whole [((14:Nat):Int)::q])=true):∃ cg:CG,Good [((14:Nat):Int)::q] cg:=by
 obtain ⟨a0,rfl⟩:=il1 hl
 have h:(KragNeutral.natural a0 32)=true:=h
 obtain ⟨x0,rfl⟩:=nat_of h
 exact ⟨(14,[x0]),⟨rfl,by show 14<31;decide⟩,⟨by show 1<=255;decide,fun _=>rfl⟩,rfl⟩
theorem good15 {q:List Int} (hl:q.length=2) (h:KragNeutral.asked1 (PyKrag.whole [((15:Nat):Int)::q])=true):∃ cg:CG,Good [((15:Nat):Int)::q] cg:=by
 obtain ⟨a0,a1,rfl⟩:=il2 hl
 have h:(KragNeutral.natural a0 32 && KragNeutral.natural a1 32)=true:=h
 rw [Bool.and_eq_true] at h
 obtain ⟨x0,rfl⟩:=nat_of h.1
 obtain ⟨x1,rfl⟩:=nat_of h.2
 exact ⟨(15,[x0,x1]),⟨rfl,by show 15<31;decide⟩,⟨by show 2<=255;decide,fun _=>rfl⟩,rfl⟩
theorem good16 {q:List Int} (hl:q.length=3) (h:KragNeutral.asked1 (PyKrag.whole [((16:Nat):Int)::q])=true):∃ cg:CG,Good [((16:Nat):Int)::q] cg:=by
 obtain ⟨a0,a1,a2,rfl⟩:=il3 hl
 have h:(KragNeutral.natural a0 32 && KragNeutral.natural a1 32 && KragNeutral.natural a2 32)=true:=h
 rw [Bool.and_eq_true,Bool.and_eq_true] at h
 obtain ⟨x0,rfl⟩:=nat_of h.1.1
 obtain ⟨x1,rfl⟩:=nat_of h.1.2
 obtain ⟨x2,rfl⟩:=nat_of h.2
 exact ⟨(16,[x0,x1,x2]),⟨rfl,by show 16<31;decide⟩,⟨by show 3<=255;decide,fun _=>rfl⟩,rfl⟩
theorem good17 {q:List Int} (hl:q.length=2) (h:KragNeutral.asked1 (PyKrag.whole [((17:Nat):Int)::q])=true):∃ cg:CG,Good [((17:Nat):Int)::q] cg:=by
 obtain ⟨a0,a1,rfl⟩:=il2 hl
 have h:(KragNeutral.natural a0 32 && KragNeutral.natural a1 32)=true:=h
 rw [Bool.and_eq_true] at h
 obtain ⟨x0,rfl⟩:=nat_of h.1
 obtain ⟨x1,rfl⟩:=nat_of h.2
 exact ⟨(17,[x0,x1]),⟨rfl,by show 17<31;decide⟩,⟨by show 2<=255;decide,fun _=>rfl⟩,rfl⟩
theorem good18 {q:List Int} (hl:q.length=0) (h:KragNeutral.asked1 (PyKrag.whole [((18:Nat):Int)::q])=true):∃ cg:CG,Good [((18:Nat):Int)::q] cg:=by
 have e:=il0 hl
 subst e
 exact ⟨(18,[]),⟨rfl,by show 18<31;decide⟩,⟨by show 0<=255;decide,fun _=>rfl⟩,rfl⟩
theorem good19 {q:List Int} (hl:q.length=0) (h:KragNeutral.asked1 (PyKrag.whole [((19:Nat):Int)::q])=true):∃ cg:CG,Good [((19:Nat):Int)::q] cg:=by
 have e:=il0 hl
 subst e
 exact ⟨(19,[]),⟨rfl,by show 19<31;decide⟩,⟨by show 0<=255;decide,fun _=>rfl⟩,rfl⟩
theorem good20 {q:List Int} (hl:q.length=2) (h:KragNeutral.asked1 (PyKrag.whole [((20:Nat):Int)::q])=true):∃ cg:CG,Good [((20:Nat):Int)::q] cg:=by
 obtain ⟨a0,a1,rfl⟩:=il2 hl
 have h:(KragNeutral.natural a0 32 && KragNeutral.natural a1 32)=true:=h
 rw [Bool.and_eq_true] at h
 obtain ⟨x0,rfl⟩:=nat_of h.1
 obtain ⟨x1,rfl⟩:=nat_of h.2
 exact ⟨(20,[x0,x1]),⟨rfl,by show 20<31;decide⟩,⟨by show 2<=255;decide,fun _=>rfl⟩,rfl⟩
theorem good21 {q:List Int} (hl:q.length=1) (h:KragNeutral.asked1 (PyKrag.whole [((21:Nat):Int)::q])=true):∃ cg:CG,Good [((21:Nat):Int)::q] cg:=by
 obtain ⟨a0,rfl⟩:=il1 hl
 have h:(KragNeutral.natural a0 32)=true:=h
 obtain ⟨x0,rfl⟩:=nat_of h
 exact ⟨(21,[x0]),⟨rfl,by show 21<31;decide⟩,⟨by show 1<=255;decide,fun _=>rfl⟩,rfl⟩
theorem good22 {q:List Int} (hl:q.length=0) (h:KragNeutral.asked1 (PyKrag.whole [((22:Nat):Int)::q])=true):∃ cg:CG,Good [((22:Nat):Int)::q] cg:=by
 have e:=il0 hl
 subst e
 exact ⟨(22,[]),⟨rfl,by show 22<31;decide⟩,⟨by show 0<=255;decide,fun _=>rfl⟩,rfl⟩
theorem good23 {q:List Int} (hl:q.length=0) (h:KragNeutral.asked1 (PyKrag.whole [((23:Nat):Int)::q])=true):∃ cg:CG,Good [((23:Nat):Int)::q] cg:=by
 have e:=il0 hl
 subst e
 exact ⟨(23,[]),⟨rfl,by show 23<31;decide⟩,⟨by show 0<=255;decide,fun _=>rfl⟩,rfl⟩
theorem good24 {q:List Int} (hl:q.length=0) (h:KragNeutral.asked1 (PyKrag.whole [((24:Nat):Int)::q])=true):∃ cg:CG,Good [((24:Nat):Int)::q] cg:=by
 have e:=il0 hl
 subst e
 exact ⟨(24,[]),⟨rfl,by show 24<31;decide⟩,⟨by show 0<=255;decide,fun _=>rfl⟩,rfl⟩
theorem good25 {q:List Int} (h:KragNeutral.asked1 (PyKrag.whole [[((25:Nat):Int)],q])=true):∃ cg:CG,Good [[((25:Nat):Int)],q] cg:=by
 have h:(q.all (fun z=>KragNeutral.natural z 32) && decide (q.length<256))=true:=h
 rw [Bool.and_eq_true,decide_eq_true_eq] at h
 obtain ⟨g,rfl⟩:=nats_of h.1
 have hg:=h.2
 rw [ni_length] at hg
 refine ⟨(25,g),⟨rfl,by show 25<31;decide⟩,⟨by show g.length<=255;omega,fun z=>absurd z (by show ¬ hasRow ((25:Nat):Int)=false;decide)⟩,?_⟩
 show Krag.Call.wrong ((ni g).map Int.toNat)=_
 rw [toNat_ni]
 rfl
theorem good26 {q:List Int} (hl:q.length=1) (h:KragNeutral.asked1 (PyKrag.whole [((26:Nat):Int)::q])=true):∃ cg:CG,Good [((26:Nat):Int)::q] cg:=by
 obtain ⟨a0,rfl⟩:=il1 hl
 have h:(KragNeutral.natural a0 32)=true:=h
 obtain ⟨x0,rfl⟩:=nat_of h
 exact ⟨(26,[x0]),⟨rfl,by show 26<31;decide⟩,⟨by show 1<=255;decide,fun _=>rfl⟩,rfl⟩
theorem good27 {q:List Int} (hl:q.length=2) (h:KragNeutral.asked1 (PyKrag.whole [((27:Nat):Int)::q])=true):∃ cg:CG,Good [((27:Nat):Int)::q] cg:=by
 obtain ⟨a0,a1,rfl⟩:=il2 hl
 have h:(KragNeutral.natural a0 32 && KragNeutral.natural a1 32)=true:=h
 rw [Bool.and_eq_true] at h
 obtain ⟨x0,rfl⟩:=nat_of h.1
 obtain ⟨x1,rfl⟩:=nat_of h.2
 exact ⟨(27,[x0,x1]),⟨rfl,by show 27<31;decide⟩,⟨by show 2<=255;decide,fun _=>rfl⟩,rfl⟩
theorem good28 {q:List Int} (hl:q.length=1) (h:KragNeutral.asked1 (PyKrag.whole [((28:Nat):Int)::q])=true):∃ cg:CG,Good [((28:Nat):Int)::q] cg:=by
 obtain ⟨a0,rfl⟩:=il1 hl
 have h:(KragNeutral.natural a0 32)=true:=h
 obtain ⟨x0,rfl⟩:=nat_of h
 exact ⟨(28,[x0]),⟨rfl,by show 28<31;decide⟩,⟨by show 1<=255;decide,fun _=>rfl⟩,rfl⟩
theorem good29 {q:List Int} (hl:q.length=1) (h:KragNeutral.asked1 (PyKrag.whole [((29:Nat):Int)::q])=true):∃ cg:CG,Good [((29:Nat):Int)::q] cg:=by
 obtain ⟨a0,rfl⟩:=il1 hl
 have h:(KragNeutral.natural a0 32)=true:=h
 obtain ⟨x0,rfl⟩:=nat_of h
 exact ⟨(29,[x0]),⟨rfl,by show 29<31;decide⟩,⟨by show 1<=255;decide,fun _=>rfl⟩,rfl⟩
theorem good30 {q:List Int} (hl:q.length=0) (h:KragNeutral.asked1 (PyKrag.whole [((30:Nat):Int)::q])=true):∃ cg:CG,Good [((30:Nat):Int)::q] cg:=by
 have e:=il0 hl
 subst e
 exact ⟨(30,[]),⟨rfl,by show 30<31;decide⟩,⟨by show 0<=255;decide,fun _=>rfl⟩,rfl⟩
theorem d31:∀ k:Nat,k<31->k=0\/k=1\/k=2\/k=3\/k=4\/k=5\/k=6\/k=7\/k=8\/k=9\/k=10\/k=11\/k=12\/k=13\/k=14\/k=15\/k=16\/k=17\/k=18\/k=19\/k=20\/k=21\/k=22\/k=23\/k=24\/k=25\/k=26\/k=27\/k=28\/k=29\/k=30:=by decide +kernel
theorem good {ns:List Int} {c:List (List Int)} {t:List Int} (e:PyFlat.call PyKrag.shape ns=some (c,t)) (h:KragNeutral.asked1 (PyKrag.whole c)=true):∃ cg:CG,Good c cg:=by
 obtain ⟨k,r,hk,_,hcase⟩:=call_read e
 have hkc:=d31 k (by omega)
 rcases hcase with ⟨hrow,hc,rfl,_⟩ | ⟨hrow,m,r2,_,hm,rfl,_⟩
 ·have hl:(r.take (counts.getD k 0)).length=counts.getD k 0:=by rw [List.length_take];exact Nat.min_eq_left hc
  generalize r.take (counts.getD k 0)=q at *
  rcases hkc with rfl | rfl | rfl | rfl | rfl | rfl | rfl | rfl | rfl | rfl | rfl | rfl | rfl | rfl | rfl | rfl | rfl | rfl | rfl | rfl | rfl | rfl | rfl | rfl | rfl | rfl | rfl | rfl | rfl | rfl | rfl
  ·exact good0 hl h
  ·exact good1 hl h
  ·exact good2 hl h
  ·exact absurd hrow (by decide)
  ·exact good4 hl h
  ·exact good5 hl h
  ·exact good6 hl h
  ·exact good7 hl h
  ·exact good8 hl h
  ·exact good9 hl h
  ·exact good10 hl h
  ·exact good11 hl h
  ·exact good12 hl h
  ·exact absurd hrow (by decide)
  ·exact good14 hl h
  ·exact good15 hl h
  ·exact good16 hl h
  ·exact good17 hl h
  ·exact good18 hl h
  ·exact good19 hl h
  ·exact good20 hl h
  ·exact good21 hl h
  ·exact good22 hl h
  ·exact good23 hl h
  ·exact good24 hl h
  ·exact absurd hrow (by decide)
  ·exact good26 hl h
  ·exact good27 hl h
  ·exact good28 hl h
  ·exact good29 hl h
  ·exact good30 hl h
 ·rcases hkc with rfl | rfl | rfl | rfl | rfl | rfl | rfl | rfl | rfl | rfl | rfl | rfl | rfl | rfl | rfl | rfl | rfl | rfl | rfl | rfl | rfl | rfl | rfl | rfl | rfl | rfl | rfl | rfl | rfl | rfl | rfl
  ·exact absurd hrow (by decide)
  ·exact absurd hrow (by decide)
  ·exact absurd hrow (by decide)
  ·exact good3 h
  ·exact absurd hrow (by decide)
  ·exact absurd hrow (by decide)
  ·exact absurd hrow (by decide)
  ·exact absurd hrow (by decide)
  ·exact absurd hrow (by decide)
  ·exact absurd hrow (by decide)
  ·exact absurd hrow (by decide)
  ·exact absurd hrow (by decide)
  ·exact absurd hrow (by decide)
  ·exact good13 h
  ·exact absurd hrow (by decide)
  ·exact absurd hrow (by decide)
  ·exact absurd hrow (by decide)
  ·exact absurd hrow (by decide)
  ·exact absurd hrow (by decide)
  ·exact absurd hrow (by decide)
  ·exact absurd hrow (by decide)
  ·exact absurd hrow (by decide)
  ·exact absurd hrow (by decide)
  ·exact absurd hrow (by decide)
  ·exact absurd hrow (by decide)
  ·exact good25 h
  ·exact absurd hrow (by decide)
  ·exact absurd hrow (by decide)
  ·exact absurd hrow (by decide)
  ·exact absurd hrow (by decide)
  ·exact absurd hrow (by decide)
end
section
open KragNeutral (told)
theorem goods:∀ (raw:List (List (List Int))) (f:Nat) (ns:List Int),PyFlat.calls PyKrag.shape f ns=some raw->(∀ c ∈ raw,KragNeutral.asked1 (PyKrag.whole c)=true)->∃ cgs:List CG,Paired Good raw cgs
 | [],_,_,_,_=>⟨[],.nil⟩
 | c::cs,f,ns,h,ha=>by
  have hne:ns ≠ []:=fun z=>by rw [z,calls_nil] at h;cases h
  obtain ⟨g,c',t,cs',e1,e2,e3⟩:=calls_cons h hne
  injection e1 with e4 e5
  subst e4 e5
  obtain ⟨cg,hg⟩:=good e2 (ha c List.mem_cons_self)
  obtain ⟨cgs,hp⟩:=goods cs g t e3 fun d hd=>ha d (List.mem_cons_of_mem _ hd)
  exact ⟨cg::cgs,.cons hg hp⟩
theorem played_run:∀ {raw:List (List (List Int))} {cgs:List CG} (s:Option Krag.World),Paired Good raw cgs->PyFlat.told (PyFlat.played KragNeutral.step s (raw.map PyKrag.whole))=runC s cgs
 | _,_,s,.nil=>rfl
 | c::cs,cg::cgs,s,.cons hg t=>by
  have e:KragNeutral.step s (PyKrag.whole c)=((Krag.act s (callOf cg.1 cg.2)).1,told (Krag.act s (callOf cg.1 cg.2)).2):=by
   show ((Krag.act s (KragNeutral.call (PyKrag.whole c))).1,told (Krag.act s (KragNeutral.call (PyKrag.whole c))).2)=_
   rw [hg.2.2]
  have ih:=played_run (Krag.act s (callOf cg.1 cg.2)).1 t
  show PyFlat.told ((KragNeutral.step s (PyKrag.whole c)).2::PyFlat.played KragNeutral.step (KragNeutral.step s (PyKrag.whole c)).1 (cs.map PyKrag.whole))=_
  rw [e]
  show ((told (Krag.act s (callOf cg.1 cg.2)).2).length:Int)::(told (Krag.act s (callOf cg.1 cg.2)).2)++PyFlat.told (PyFlat.played KragNeutral.step (Krag.act s (callOf cg.1 cg.2)).1 (cs.map PyKrag.whole))=_
  rw [ih]
  rfl
theorem asked_facts {ns:List Int} (h:PyKrag.answers_asked ns=true):∃ (raw:List (List (List Int))) (cgs:List CG),PyFlat.calls PyKrag.shape ns.length ns=some raw/\raw.length<=30/\Paired Good raw cgs/\PyKrag.answers ns=runC none cgs/\(runC none cgs).length<=10000000:=by
 unfold PyKrag.answers_asked at h
 cases hc:PyFlat.calls PyKrag.shape ns.length ns with
 | none=>rw [hc] at h;cases h
 | some raw=>
  rw [hc] at h
  have h:(!raw.isEmpty && PyFlat.atMost 30 raw && PyInside.calls PyKrag.bound raw && KragNeutral.asked (raw.map PyKrag.whole) && PyFlat.short 10000000 (PyKrag.answers ns))=true:=h
  rw [Bool.and_eq_true,Bool.and_eq_true,Bool.and_eq_true,Bool.and_eq_true] at h
  obtain ⟨⟨⟨⟨_,h2⟩,_⟩,h4⟩,h5⟩:=h
  unfold KragNeutral.asked at h4
  rw [Bool.and_eq_true,List.all_eq_true] at h4
  have h2:raw.length<=30:=by unfold PyFlat.atMost at h2;rwa [decide_eq_true_eq] at h2
  obtain ⟨cgs,hp⟩:=goods raw _ _ hc fun c hc'=>h4.1 _ (List.mem_map.mpr ⟨c,hc',rfl⟩)
  have e:PyKrag.answers ns=runC none cgs:=by
   unfold PyKrag.answers PyKrag.calls
   rw [hc]
   exact played_run none hp
  refine ⟨raw,cgs,rfl,h2,hp,e,?_⟩
  unfold PyFlat.short at h5
  rw [decide_eq_true_eq,e] at h5
  exact h5
def spAnswers (K:PySem.W.Frag):Sp:=fun vs H Q _=>∃ (l:Addr) (ns:List Int),vs=[.ref l]/\SqL K H l (ns.map V.int)/\PyKrag.answers_asked ns=true/\∀ (H':Hp) (p:Addr),H' p=some (.lst ((PyKrag.answers ns).map V.int))->Q (.ref p) H'
theorem big {n:Nat} (h:n<=10000000):n<=sizeLine:=Nat.le_trans h (by decide)
theorem sc95:FnScope ["calls","session","found","call","given","answer"] ["calls"] (defScope s_95):=⟨rfl,rfl,rfl,by decide +kernel,rfl,by decide +kernel,by decide +kernel⟩
theorem ok95 (F:Fun K "answers" "answers" s_95 f fd) (T:Txt K mg CT CS) (mkS:Maker P w K mg base CS "Session" 1 ["self"] (spSessInit CS)) (m_answer:Method P w K mg base CS "answer" 8 ["self","call","given"] (spAnswer CT CS)) (c_1:Callee P w K mg base "read_calls" 2 ["numbers"] (spReadCalls K)):FnOk P w K mg base CX0 9 f fd ["calls"] (spAnswers K):=by
 refine F.ok sc95 (fun vs H Q E h=>by obtain ⟨_,_,rfl,_⟩:=h;rfl) (fun cdv A outer s H vs Q E hr h=>?_)
 obtain ⟨l,ns,rfl,hl,hask,q⟩:=h
 refine ⟨_,(pss_cons (pS 1 sc95.nd (pe_mk0 mkS (rm hr)))
  (pss_cons (pS 2 sc95.nd (pe_lst pa_nil))
  (pss_cons (ps_for PassesOwn.never rfl (pi_list (pe_fn c_1 (rm hr) (pa_cons (pv 0) pa_nil))) (pg_tup (n:=2) rfl (pgs_cons (pN 3 sc95.nd) (pgs_cons (pN 4 sc95.nd) pgs_nil)))
   (pss_cons (pS 5 sc95.nd (pe_mt T.clS m_answer (rm hr) (pv 1) (pa_cons (pv 3) (pa_cons (pv 4) pa_nil))))
  (pss_cons (ps_expr (pe_bm PySem.F.plainAttrs_list PySem.F.slot_list_append PySem.F.type_list_append mt_append (pv 2) (pa_cons (pe_callB call_len_seq rfl T.b_len PySem.boot_len (pa_cons (pv 5) pa_nil)) pa_nil)))
  (pss_one (ps_expr (pe_bm PySem.F.plainAttrs_list PySem.F.slot_list_extend PySem.F.type_list_extend mt_extend (pv 2) (pa_cons (pv 5) pa_nil)))))))
  (pss_one (ps_ret (pv 2)))))),?_⟩
 walk_at "rd"
 obtain ⟨raw,cgs,hraw,h30,hp,eans,hlen⟩:=asked_facts hask
 rw [eans] at q
 intro S dx nS ndx hne
 refine ⟨S,dx,rfl,upd_same,fun bl hl' H1 nbl nhl hbh sm eS eb eh=>⟨rfl,?_⟩⟩
 have s1:Same H H1:=Same.made nS ndx fun b o e hb=>sm b o hb e
 walk_at "rd"
 refine ⟨sml' (by decide),fun fo nf=>?_⟩
 have s2:=Same.new (o:=.lst []) nf
 refine ⟨l,ns,_,raw,cgs,rfl,(s1.trans s2).seq hl,hraw,Paired_map hp fun c cg h=>h.1,h30,fun p H3 s3 hcalls=>?_⟩
 obtain ⟨np,as,ep,pa⟩:=hcalls
 walk_at "rd"
 have s23:=s2.trans s3
 have fS:fo ≠ S:=fun z=>by rw [z,eS] at nf;cases nf
 have fb:fo ≠ bl:=fun z=>by rw [z,eb] at nf;cases nf
 have fh:fo ≠ hl':=fun z=>by rw [z,eh] at nf;cases nf
 have Zok0:ZOk (fun z=>z=S\/z=bl\/z=hl'\/z=fo) (upd H1 fo (.lst [])):=by
  rintro z (rfl | rfl | rfl | rfl)
  ·rw [s2 _ _ eS];simp
  ·rw [s2 _ _ eb];simp
  ·rw [s2 _ _ eh];simp
  ·rw [upd_same];simp
 have sess0:SessAt (fun z=>z=S\/z=bl\/z=hl'\/z=fo) CT CS fo H3 S none:=
  ⟨Zok0.mono s3,.inl rfl,.inr (.inr (.inr rfl)),fS,dx,.non,bl,hl',s23 _ _ eS,.inr (.inl rfl),.inr (.inr (.inl rfl)),fb,fh,hbh,rfl,s23 _ _ eb,s23 _ _ eh⟩
 obtain ⟨Pv,hPv⟩:∃ Pv:Nat->L2.St->Hp->Prop,∀ i σ H',Pv i σ H' ↔ (∃ (Z:Addr->Prop) (o3 o4 o5:Option V),σ=[some (.ref l),some (.ref S),some (.ref fo),o3,o4,o5]/\SessAt Z CT CS fo H' S (stC none (cgs.take i))/\H' fo=some (.lst ((runC none (cgs.take i)).map V.int))/\¬ Z p/\H' p=some (.lst (as.map V.ref))/\Paired (fun a cg=>¬ Z a/\∃ gl,¬ Z gl/\H' a=some (.tup [.int (cg.1:Int),.ref gl])/\H' gl=some (.lst (nv cg.2))) as cgs):=⟨_,fun _ _ _=>Iff.rfl⟩
 refine ⟨⟨_,SqL.of ep⟩,loop_list Pv ((hPv _ _ _).mpr ⟨_,none,none,none,rfl,sess0,s3 _ _ upd_same,Zok0.not np,ep,Paired_map pa fun a cg ⟨na,gl,ngl,ea,eg⟩=>⟨Zok0.not na,gl,Zok0.not ngl,ea,eg⟩⟩) (fun i σ H' _ h=>by
  obtain ⟨Z,o3,o4,o5,_,_,_,_,h5,_⟩:=(hPv _ _ _).mp h
  exact SqL.of h5) ?_ ?_⟩
 ·intro i v σ H4 hv h
  obtain ⟨Z,o3,o4,o5,rfl,sess,ef,zp,ep4,pr⟩:=(hPv _ _ _).mp h
  have hi:i<cgs.length:=by
   have:=lt_of_get hv
   rw [List.length_map,Paired_len pr] at this
   exact this
  obtain ⟨a,ha,za,gl,zgl,ea,eg⟩:=Paired_get pr (List.getElem?_eq_getElem hi)
  have ev:v=.ref a:=by rw [List.getElem?_map,ha] at hv;exact (Option.some.inj hv).symm
  subst ev
  obtain ⟨c',_,hg⟩:=Paired_get hp (List.getElem?_eq_getElem hi)
  refine gtup_of ea rfl ?_
  walk_at "rd"
  obtain ⟨dx0,tv,bl0,hl0,eS0,_⟩:=sess.at_
  refine ⟨dx0,_,eS0,rfl,Z,fo,S,_,(cgs[i]).1,gl,(cgs[i]).2,rfl,sess,zgl,eg,hg.2.1,by have:=hg.1.2;omega,fun p5 Z' H5 np5 sz ef5 hz sess' ep5=>?_⟩
  walk_at "rd"
  have pf:p5 ≠ fo:=fun z=>by rw [z,ef] at np5;cases np5
  rw [ef] at ef5
  have hsn:=runC_snoc none (cgs.take i) cgs[i]
  have hle:=runC_take none cgs (i+1)
  rw [take_snoc (List.getElem?_eq_getElem hi),hsn,List.length_append,List.length_append] at hle
  simp only [List.length_cons,List.length_nil] at hle
  have e1:(upd H5 fo (.lst ((runC none (cgs.take i)).map V.int++[V.int (((told (Krag.act (stC none (cgs.take i)) (callOf (cgs[i]).1 (cgs[i]).2)).2).map V.int).length:Nat)]))) p5=some (.lst ((told (Krag.act (stC none (cgs.take i)) (callOf (cgs[i]).1 (cgs[i]).2)).2).map V.int)):=by rw [upd_ne pf];exact ep5
  refine ⟨.inl ⟨rfl,_,SqL.of ef5⟩,_,.inl (SqL.of ep5),_,ef5,?_,.inl ⟨rfl,_,SqL.of upd_same⟩,_,upd_same,_,e1,?_,?_⟩
  ·rw [List.length_map]
   exact Nat.lt_of_le_of_lt (show _<=10000000 by omega) (by decide)
  ·rw [List.length_append,List.length_map,List.length_map]
   simp only [List.length_cons,List.length_nil]
   exact big (by omega)
  ·have nz:∀ {b:Addr} {o:HO},¬ Z b->H4 b=some o->¬ Z' b/\b ≠ fo:=fun hb e=>⟨fun z=>(hz _ z).elim hb (fun n=>by rw [n] at e;cases e),fun z=>hb (by rw [z];exact sess.zf)⟩
   refine (hPv _ _ _).mpr ⟨Z',_,_,_,rfl,?_,?_,(nz zp ep4).1,?_,Paired_map pr fun a cg ⟨h1,gl,h2,h3,h4⟩=>⟨(nz h1 h3).1,gl,(nz h2 h4).1,?_,?_⟩⟩
   ·rw [take_snoc (List.getElem?_eq_getElem hi),stC_snoc]
    exact (sess'.found _).found _
   ·rw [upd_same,take_snoc (List.getElem?_eq_getElem hi),hsn,List.length_map,List.map_append,List.map_append]
    rfl
   ·rw [upd_ne (nz zp ep4).2,upd_ne (nz zp ep4).2];exact sz _ _ zp ep4
   ·rw [upd_ne (nz h1 h3).2,upd_ne (nz h1 h3).2];exact sz _ _ h1 h3
   ·rw [upd_ne (nz h2 h4).2,upd_ne (nz h2 h4).2];exact sz _ _ h2 h4
 ·intro σ H4 h
  obtain ⟨Z,o3,o4,o5,rfl,sess,ef,zp,ep4,pr⟩:=(hPv _ _ _).mp h
  walk_at "rd"
  rw [List.length_map,Paired_len pa,List.take_length] at ef
  exact q H4 fo ef
end
structure DefAt (K:PySem.W.Frag) (mg:Str->Option Value) (x:Str) (st:Stmt):Prop where
 ex:∃ (f:Addr) (fd:FuncData),Fun K x x st f fd/\mg x=some (.ref f)
structure MethAt (K:PySem.W.Frag) (C:Addr) (x qual:Str) (st:Stmt):Prop where
 ex:∃ (f:Addr) (fd:FuncData),Fun K x qual st f fd/\Meth K C x f
structure MkAt (K:PySem.W.Frag) (mg:Str->Option Value) (C:Addr) (x qual:Str) (st:Stmt):Prop where
 ex:∃ (f:Addr) (fd:FuncData),Fun K "__init__" qual st f fd/\Mk K C f/\mg x=some (.ref C)
section
variable {K:PySem.W.Frag} {h:Heap} {mg:Str->Option Value} {x qual:Str} {st:Stmt} {f C:Addr} {oc:Value} {od an:Option Addr} {osl:Array (Option Value)} {kV doc pm cdv ct:Value}
theorem def_at (X:K.In h) (G:h.Ns mainGlobals mg) (a:PySem.W.nsIn K mainGlobals x=some (some (.ref f))) (l:K.lookup f=some ⟨oc,od,.func (PySem.W.fnOf x x (defArgs st) (defBody st) (defScope st) .none kV doc pm an cdv ct),osl⟩)
  (c:PySem.W.codeIn K cdv x=true) (k:PySem.W.keepIn K (.ref f)=true):DefAt K mg x st:=⟨⟨f,_,fun_mk l c k,PySem.W.mg_of X G a⟩⟩
theorem meth_at (a:PySem.W.findIn K (.ref C) x=some (some (.ref f))) (i:PySem.W.isFn K (.ref f)=true) (l:K.lookup f=some ⟨oc,od,.func (PySem.W.fnOf x qual (defArgs st) (defBody st) (defScope st) .none kV doc pm an cdv ct),osl⟩)
  (c:PySem.W.codeIn K cdv qual=true) (k:PySem.W.keepIn K (.ref f)=true):MethAt K C x qual st:=⟨⟨f,_,fun_mk l c k,⟨a,i,k⟩⟩⟩
theorem mk_at (m:mg x=some (.ref C)) (a:PySem.W.findIn K (.ref C) "__init__"=some (some (.ref f))) (i:PySem.W.isFn K (.ref f)=true) (l:K.lookup f=some ⟨oc,od,.func (PySem.W.fnOf "__init__" qual (defArgs st) (defBody st) (defScope st) .none kV doc pm an cdv ct),osl⟩)
  (c:PySem.W.codeIn K cdv qual=true) (k:PySem.W.keepIn K (.ref f)=true) (mk:PySem.W.makesIn K C=true) (kc:PySem.W.keepIn K (.ref C)=true):MkAt K mg C x qual st:=⟨⟨f,_,fun_mk l c k,⟨mk,a,i,kc⟩,m⟩⟩
end
theorem l1 {p:List Value->Prop} (h:∀ a,p [a]):∀ us:List Value,us.length=1->p us
 | [a],_=>h a
theorem l2 {p:List Value->Prop} (h:∀ a b,p [a,b]):∀ us:List Value,us.length=2->p us
 | [a,b],_=>h a b
theorem l3 {p:List Value->Prop} (h:∀ a b c,p [a,b,c]):∀ us:List Value,us.length=3->p us
 | [a,b,c],_=>h a b c
theorem l4 {p:List Value->Prop} (h:∀ a b c d,p [a,b,c,d]):∀ us:List Value,us.length=4->p us
 | [a,b,c,d],_=>h a b c d
theorem l5 {p:List Value->Prop} (h:∀ a b c d e,p [a,b,c,d,e]):∀ us:List Value,us.length=5->p us
 | [a,b,c,d,e],_=>h a b c d e
theorem l6 {p:List Value->Prop} (h:∀ a b c d e f,p [a,b,c,d,e,f]):∀ us:List Value,us.length=6->p us
 | [a,b,c,d,e,f],_=>h a b c d e f
theorem cal (P:Program) (w:World) (base:Heap) {K:PySem.W.Frag} {mg:Str->Option Value} {x:Str} {st:Stmt} {k:Nat} {ps:List Str} {sp:Sp} (d:DefAt K mg x st) (h:∀ f fd,Fun K x x st f fd->FnOk P w K mg base CX0 k f fd ps sp)
  (b:∀ (kV doc pm:Value) (an:Option Addr) (cdv ct:Value) (us:List Value),us.length=ps.length->bindArgs (PySem.W.fnOf x x (defArgs st) (defBody st) (defScope st) .none kV doc pm an cdv ct) ⟨us,[]⟩=pure (ps.zip us)):Callee P w K mg base x k ps sp:=by
 obtain ⟨f,fd,F,m⟩:=d.ex
 exact ⟨f,fd,h f fd F,F.binds b,m,F.kp⟩
theorem all_ok {P:Program} {w:World} {K:PySem.W.Frag} {mg:Str->Option Value} {CT CS fa:Addr} (hfa:mg "answers"=some (.ref fa)) (T:Txt K mg CT CS)
  (mT:MkAt K mg CT "Told" "Told.__init__" s_2) (mS:MkAt K mg CS "Session" "Session.__init__" s_88)
  (d_6:DefAt K mg "is_kind" s_6)
  (d_0:DefAt K mg "has_row" s_0)
  (d_7:DefAt K mg "is_world_set" s_7)
  (d_8:DefAt K mg "has_lot" s_8)
  (d_9:DefAt K mg "has_lots" s_9)
  (d_10:DefAt K mg "has_prize" s_10)
  (d_11:DefAt K mg "holds" s_11)
  (d_22:DefAt K mg "is_member" s_22)
  (d_25:DefAt K mg "set_of_all" s_25)
  (d_24:DefAt K mg "set_of" s_24)
  (d_40:DefAt K mg "common_divisor" s_40)
  (d_41:DefAt K mg "fraction" s_41)
  (d_12:DefAt K mg "is_numbers" s_12)
  (d_13:DefAt K mg "all_numbers" s_13)
  (d_14:DefAt K mg "prize_shares" s_14)
  (d_15:DefAt K mg "prize_gaps" s_15)
  (d_16:DefAt K mg "weighed" s_16)
  (d_17:DefAt K mg "rather_gaps" s_17)
  (d_18:DefAt K mg "numbers_agree" s_18)
  (d_19:DefAt K mg "agreeing" s_19)
  (d_20:DefAt K mg "disagreed_with" s_20)
  (d_21:DefAt K mg "all_that_fit" s_21)
  (d_48:DefAt K mg "set_share" s_48)
  (d_49:DefAt K mg "shares_agree" s_49)
  (d_47:DefAt K mg "splits" s_47)
  (d_50:DefAt K mg "chances_gone_by" s_50)
  (d_23:DefAt K mg "members" s_23)
  (d_26:DefAt K mg "wrong_sets" s_26)
  (d_27:DefAt K mg "go_together" s_27)
  (d_28:DefAt K mg "is_clash" s_28)
  (d_29:DefAt K mg "all_clashes" s_29)
  (d_30:DefAt K mg "all_to_spare" s_30)
  (d_31:DefAt K mg "least_numbers" s_31)
  (d_32:DefAt K mg "least_and_greatest_sum" s_32)
  (d_33:DefAt K mg "surely_above" s_33)
  (d_34:DefAt K mg "surely_more" s_34)
  (d_35:DefAt K mg "prize_surely_more" s_35)
  (d_36:DefAt K mg "some_agree" s_36)
  (d_37:DefAt K mg "no_worse_in_each_world" s_37)
  (d_38:DefAt K mg "times_at_the_top" s_38)
  (d_39:DefAt K mg "best_lots" s_39)
  (d_42:DefAt K mg "sum_over" s_42)
  (d_43:DefAt K mg "best_over" s_43)
  (d_44:DefAt K mg "worth_of_learning" s_44)
  (d_45:DefAt K mg "worth_of_learning_whether" s_45)
  (d_46:DefAt K mg "worth_of_learning_all" s_46)
  (d_77:DefAt K mg "standing" s_77)
  (d_78:DefAt K mg "take_down" s_78)
  (d_79:DefAt K mg "take_down_told" s_79)
  (d_80:DefAt K mg "known_at_once" s_80)
  (d_81:DefAt K mg "go_on_from" s_81)
  (d_82:DefAt K mg "go_on_from_all" s_82)
  (d_83:DefAt K mg "by_rules" s_83)
  (d_51:DefAt K mg "counted" s_51)
  (d_52:DefAt K mg "yes_or_no" s_52)
  (d_53:DefAt K mg "lots_given" s_53)
  (d_54:DefAt K mg "is_given_there" s_54)
  (d_55:DefAt K mg "is_given_right" s_55)
  (d_56:DefAt K mg "refusal_of_given" s_56)
  (d_57:DefAt K mg "least" s_57)
  (d_58:DefAt K mg "worth" s_58)
  (d_59:DefAt K mg "clashes" s_59)
  (d_60:DefAt K mg "asked_of_two" s_60)
  (d_61:DefAt K mg "asked_of_numbers" s_61)
  (d_62:DefAt K mg "asked" s_62)
  (d_84:DefAt K mg "look" s_84)
  (d_85:DefAt K mg "told_rather" s_85)
  (d_86:DefAt K mg "asked_by_rules" s_86)
  (d_87:DefAt K mg "recalled" s_87)
  (d_3:DefAt K mg "with_likelier" s_3)
  (d_4:DefAt K mg "with_lots" s_4)
  (d_5:DefAt K mg "with_rather" s_5)
  (d_63:DefAt K mg "refused" s_63)
  (d_64:DefAt K mg "without" s_64)
  (d_65:DefAt K mg "replaced" s_65)
  (d_68:DefAt K mg "is_prize_for_each_world" s_68)
  (d_70:DefAt K mg "moved_up" s_70)
  (d_71:DefAt K mg "rather_without_lot" s_71)
  (d_66:DefAt K mg "tell_likelier" s_66)
  (d_67:DefAt K mg "untell_likelier" s_67)
  (d_69:DefAt K mg "add_lot" s_69)
  (d_72:DefAt K mg "remove_lot" s_72)
  (d_73:DefAt K mg "set_prize" s_73)
  (d_74:DefAt K mg "tell_rather" s_74)
  (d_75:DefAt K mg "untell_rather" s_75)
  (d_76:DefAt K mg "changed" s_76)
  (h_begin:MethAt K CS "begin" "Session.begin" s_90)
  (h_change:MethAt K CS "change" "Session.change" s_91)
  (h_take_back:MethAt K CS "take_back" "Session.take_back" s_92)
  (h_do_again:MethAt K CS "do_again" "Session.do_again" s_93)
  (h_state:MethAt K CS "state" "Session.state" s_94)
  (h_answer:MethAt K CS "answer" "Session.answer" s_89)
  (d_1:DefAt K mg "read_calls" s_1)
  (d_95:DefAt K mg "answers" s_95) :
  ∃ fd:FuncData,(∀ (s:Shared) (us:List Value),us.length=(["calls"]:List Str).length->BindsTo s fd ⟨us,[]⟩ ((["calls"]:List Str).zip us))/\∀ base:Heap,FnOk P w K mg base CX0 9 fa fd ["calls"] (spAnswers K):=by
 obtain ⟨fz,fdz,Fz,mz⟩:=d_95.ex
 obtain ⟨oc,od,kV,doc,pm,an,cdv,ct,osl,rfl,lk,hcd⟩:=id Fz.ex
 have e:=hfa.symm.trans mz
 cases e
 refine ⟨PySem.W.fnOf "answers" "answers" (defArgs s_95) (defBody s_95) (defScope s_95) .none kV doc pm an cdv ct,fun s us hu=>match us,hu with | [_],_=>.of_eq rfl,fun base=>?_⟩
 have c_6:=cal P w base d_6 (fun f fd F=>ok6 F T) fun _ _ _ _ _ _=>l1 fun _=>rfl
 have c_0:=cal P w base d_0 (fun f fd F=>ok0 F T) fun _ _ _ _ _ _=>l1 fun _=>rfl
 have c_7:=cal P w base d_7 (fun f fd F=>ok7 F T) fun _ _ _ _ _ _=>l2 fun _ _=>rfl
 have c_8:=cal P w base d_8 (fun f fd F=>ok8 F T) fun _ _ _ _ _ _=>l2 fun _ _=>rfl
 have c_9:=cal P w base d_9 (fun f fd F=>ok9 F T c_8) fun _ _ _ _ _ _=>l3 fun _ _ _=>rfl
 have c_10:=cal P w base d_10 (fun f fd F=>ok10 F T) fun _ _ _ _ _ _=>l2 fun _ _=>rfl
 have c_11:=cal P w base d_11 (fun f fd F=>ok11 F T) fun _ _ _ _ _ _=>l3 fun _ _ _=>rfl
 have c_22:=cal P w base d_22 (fun f fd F=>ok22 F T) fun _ _ _ _ _ _=>l2 fun _ _=>rfl
 have c_25:=cal P w base d_25 (fun f fd F=>ok25 F T) fun _ _ _ _ _ _=>l1 fun _=>rfl
 have c_24:=cal P w base d_24 (fun f fd F=>ok24 F T) fun _ _ _ _ _ _=>l1 fun _=>rfl
 have c_40:=cal P w base d_40 (fun f fd F=>ok40 F T) fun _ _ _ _ _ _=>l2 fun _ _=>rfl
 have c_41:=cal P w base d_41 (fun f fd F=>ok41 F T c_40) fun _ _ _ _ _ _=>l2 fun _ _=>rfl
 have c_12:=cal P w base d_12 (fun f fd F=>ok12 F T) fun _ _ _ _ _ _=>l2 fun _ _=>rfl
 have c_13:=cal P w base d_13 (fun f fd F=>ok13 F T) fun _ _ _ _ _ _=>l1 fun _=>rfl
 have c_14:=cal P w base d_14 (fun f fd F=>ok14 F T) fun _ _ _ _ _ _=>l3 fun _ _ _=>rfl
 have c_15:=cal P w base d_15 (fun f fd F=>ok15 F T c_14) fun _ _ _ _ _ _=>l4 fun _ _ _ _=>rfl
 have c_16:=cal P w base d_16 (fun f fd F=>ok16 F T) fun _ _ _ _ _ _=>l2 fun _ _=>rfl
 have c_17:=cal P w base d_17 (fun f fd F=>ok17 F T c_15) fun _ _ _ _ _ _=>l2 fun _ _=>rfl
 have c_18:=cal P w base d_18 (fun f fd F=>ok18 F T c_11 c_16) fun _ _ _ _ _ _=>l3 fun _ _ _=>rfl
 have c_19:=cal P w base d_19 (fun f fd F=>ok19 F T c_18) fun _ _ _ _ _ _=>l3 fun _ _ _=>rfl
 have c_20:=cal P w base d_20 (fun f fd F=>ok20 F T c_18) fun _ _ _ _ _ _=>l2 fun _ _=>rfl
 have c_21:=cal P w base d_21 (fun f fd F=>ok21 F T c_13 c_17 c_19) fun _ _ _ _ _ _=>l2 fun _ _=>rfl
 have c_48:=cal P w base d_48 (fun f fd F=>ok48 F T c_22) fun _ _ _ _ _ _=>l2 fun _ _=>rfl
 have c_49:=cal P w base d_49 (fun f fd F=>ok49 F T c_11 c_48) fun _ _ _ _ _ _=>l2 fun _ _=>rfl
 obtain ⟨f,fd,F,m⟩:=d_47.ex
 have bd:=F.binds (ps:=["total","parts"]) (fun _ _ _ _ _ _=>l2 fun _ _=>rfl)
 have c_47:∀ p,1<=p->p<=4->Callee P w K mg base "splits" 4 ["total","parts"] (spSplits p):=fun p h1 h4=>by
  obtain ⟨j,rfl⟩:∃ j,p=j+1:=⟨p - 1,by omega⟩
  exact ⟨f,fd,(ok47 F T bd m j (by omega)).mono (by omega),bd,m,F.kp⟩
 clear F m bd
 have c_50:=cal P w base d_50 (fun f fd F=>ok50 F T c_47 c_49) fun _ _ _ _ _ _=>l1 fun _=>rfl
 have c_23:=cal P w base d_23 (fun f fd F=>ok23 F T c_22) fun _ _ _ _ _ _=>l1 fun _=>rfl
 have c_26:=cal P w base d_26 (fun f fd F=>ok26 F T c_17 c_13 c_24 c_20) fun _ _ _ _ _ _=>l2 fun _ _=>rfl
 have c_27:=cal P w base d_27 (fun f fd F=>ok27 F T) fun _ _ _ _ _ _=>l2 fun _ _=>rfl
 have c_28:=cal P w base d_28 (fun f fd F=>ok28 F T c_27 c_23 c_24) fun _ _ _ _ _ _=>l2 fun _ _=>rfl
 have c_29:=cal P w base d_29 (fun f fd F=>ok29 F T c_26 c_25 c_28) fun _ _ _ _ _ _=>l2 fun _ _=>rfl
 have c_30:=cal P w base d_30 (fun f fd F=>ok30 F T c_26 c_24) fun _ _ _ _ _ _=>l2 fun _ _=>rfl
 have c_31:=cal P w base d_31 (fun f fd F=>ok31 F T) fun _ _ _ _ _ _=>l1 fun _=>rfl
 have c_32:=cal P w base d_32 (fun f fd F=>ok32 F T c_14 c_16) fun _ _ _ _ _ _=>l4 fun _ _ _ _=>rfl
 have c_33:=cal P w base d_33 (fun f fd F=>ok33 F T) fun _ _ _ _ _ _=>l1 fun _=>rfl
 have c_34:=cal P w base d_34 (fun f fd F=>ok34 F T c_15 c_33 c_16) fun _ _ _ _ _ _=>l5 fun _ _ _ _ _=>rfl
 have c_35:=cal P w base d_35 (fun f fd F=>ok35 F T c_33) fun _ _ _ _ _ _=>l3 fun _ _ _=>rfl
 have c_36:=cal P w base d_36 (fun f fd F=>ok36 F T c_15 c_19) fun _ _ _ _ _ _=>l6 fun _ _ _ _ _ _=>rfl
 have c_37:=cal P w base d_37 (fun f fd F=>ok37 F T c_35) fun _ _ _ _ _ _=>l4 fun _ _ _ _=>rfl
 have c_38:=cal P w base d_38 (fun f fd F=>ok38 F T c_14 c_16) fun _ _ _ _ _ _=>l3 fun _ _ _=>rfl
 have c_39:=cal P w base d_39 (fun f fd F=>ok39 F T c_38) fun _ _ _ _ _ _=>l4 fun _ _ _ _=>rfl
 have c_42:=cal P w base d_42 (fun f fd F=>ok42 F T c_22) fun _ _ _ _ _ _=>l5 fun _ _ _ _ _=>rfl
 have c_43:=cal P w base d_43 (fun f fd F=>ok43 F T c_42) fun _ _ _ _ _ _=>l4 fun _ _ _ _=>rfl
 have c_44:=cal P w base d_44 (fun f fd F=>ok44 F T c_43 c_25 c_41) fun _ _ _ _ _ _=>l4 fun _ _ _ _=>rfl
 have c_45:=cal P w base d_45 (fun f fd F=>ok45 F T c_25 c_44) fun _ _ _ _ _ _=>l4 fun _ _ _ _=>rfl
 have c_46:=cal P w base d_46 (fun f fd F=>ok46 F T c_44) fun _ _ _ _ _ _=>l3 fun _ _ _=>rfl
 have c_77:=cal P w base d_77 (fun f fd F=>ok77 F T) fun _ _ _ _ _ _=>l3 fun _ _ _=>rfl
 have c_78:=cal P w base d_78 (fun f fd F=>ok78 F T c_77) fun _ _ _ _ _ _=>l4 fun _ _ _ _=>rfl
 have c_79:=cal P w base d_79 (fun f fd F=>ok79 F T c_78) fun _ _ _ _ _ _=>l4 fun _ _ _ _=>rfl
 have c_80:=cal P w base d_80 (fun f fd F=>ok80 F T c_25 c_78 c_79) fun _ _ _ _ _ _=>l1 fun _=>rfl
 have c_81:=cal P w base d_81 (fun f fd F=>ok81 F T c_77 c_78) fun _ _ _ _ _ _=>l4 fun _ _ _ _=>rfl
 have c_82:=cal P w base d_82 (fun f fd F=>ok82 F T c_81) fun _ _ _ _ _ _=>l2 fun _ _=>rfl
 have c_83:=cal P w base d_83 (fun f fd F=>ok83 F T c_80 c_82 c_25 c_77) fun _ _ _ _ _ _=>l3 fun _ _ _=>rfl
 have c_51:=cal P w base d_51 (fun f fd F=>ok51 F T) fun _ _ _ _ _ _=>l1 fun _=>rfl
 have c_52:=cal P w base d_52 (fun f fd F=>ok52 F T) fun _ _ _ _ _ _=>l1 fun _=>rfl
 have c_53:=cal P w base d_53 (fun f fd F=>ok53 F T) fun _ _ _ _ _ _=>l2 fun _ _=>rfl
 have c_54:=cal P w base d_54 (fun f fd F=>ok54 F T c_10 c_8 c_53) fun _ _ _ _ _ _=>l3 fun _ _ _=>rfl
 have c_55:=cal P w base d_55 (fun f fd F=>ok55 F T c_12 c_6 c_7) fun _ _ _ _ _ _=>l3 fun _ _ _=>rfl
 have c_56:=cal P w base d_56 (fun f fd F=>ok56 F T c_54 c_55) fun _ _ _ _ _ _=>l3 fun _ _ _=>rfl
 have c_57:=cal P w base d_57 (fun f fd F=>ok57 F T c_31) fun _ _ _ _ _ _=>l1 fun _=>rfl
 have c_58:=cal P w base d_58 (fun f fd F=>ok58 F T c_32 c_41) fun _ _ _ _ _ _=>l4 fun _ _ _ _=>rfl
 have c_59:=cal P w base d_59 (fun f fd F=>ok59 F T c_29 c_51) fun _ _ _ _ _ _=>l2 fun _ _=>rfl
 have c_60:=cal P w base d_60 (fun f fd F=>ok60 F T c_34 c_52 c_36 c_37 c_35) fun _ _ _ _ _ _=>l5 fun _ _ _ _ _=>rfl
 have c_61:=cal P w base d_61 (fun f fd F=>ok61 F T c_21 c_57 c_58 c_51 c_39 c_30 c_31 c_45 c_46 c_60) fun _ _ _ _ _ _=>l4 fun _ _ _ _=>rfl
 have c_62:=cal P w base d_62 (fun f fd F=>ok62 F T c_56 c_50 c_21 c_52 c_20 c_17 c_51 c_14 c_59 c_61) fun _ _ _ _ _ _=>l3 fun _ _ _=>rfl
 have c_84:=cal P w base d_84 (fun f fd F=>ok84 F T c_8) fun _ _ _ _ _ _=>l2 fun _ _=>rfl
 have c_85:=cal P w base d_85 (fun f fd F=>ok85 F T) fun _ _ _ _ _ _=>l2 fun _ _=>rfl
 have c_86:=cal P w base d_86 (fun f fd F=>ok86 F T c_7 c_83) fun _ _ _ _ _ _=>l3 fun _ _ _=>rfl
 have c_87:=cal P w base d_87 (fun f fd F=>ok87 F T c_86 c_84 c_85) fun _ _ _ _ _ _=>l3 fun _ _ _=>rfl
 obtain ⟨f,fd,F,M,m⟩:=mT.ex
 have mkT:Maker P w K mg base CT "Told" 1 toldPs ((spToldInit CT)):=⟨f,fd,ok_Told_init F T,F.binds (ps:=toldPs) (fun _ _ _ _ _ _=>l6 fun _ _ _ _ _ _=>rfl),M,m⟩
 clear F M m
 have c_3:=cal P w base d_3 (fun f fd F=>ok3 F T mkT) fun _ _ _ _ _ _=>l2 fun _ _=>rfl
 have c_4:=cal P w base d_4 (fun f fd F=>ok4 F T mkT) fun _ _ _ _ _ _=>l2 fun _ _=>rfl
 have c_5:=cal P w base d_5 (fun f fd F=>ok5 F T mkT) fun _ _ _ _ _ _=>l2 fun _ _=>rfl
 have c_63:=cal P w base d_63 (fun f fd F=>ok63 F T) fun _ _ _ _ _ _=>l1 fun _=>rfl
 have c_64:=cal P w base d_64 (fun f fd F=>ok64 F T) fun _ _ _ _ _ _=>l2 fun _ _=>rfl
 have c_65:=cal P w base d_65 (fun f fd F=>ok65 F T) fun _ _ _ _ _ _=>l3 fun _ _ _=>rfl
 have c_68:=cal P w base d_68 (fun f fd F=>ok68 F T c_10) fun _ _ _ _ _ _=>l2 fun _ _=>rfl
 have c_70:=cal P w base d_70 (fun f fd F=>ok70 F T) fun _ _ _ _ _ _=>l2 fun _ _=>rfl
 have c_71:=cal P w base d_71 (fun f fd F=>ok71 F T c_70) fun _ _ _ _ _ _=>l2 fun _ _=>rfl
 have c_66:=cal P w base d_66 (fun f fd F=>ok66 F T c_6 c_7 c_63 c_3) fun _ _ _ _ _ _=>l4 fun _ _ _ _=>rfl
 have c_67:=cal P w base d_67 (fun f fd F=>ok67 F T c_63 c_64 c_3) fun _ _ _ _ _ _=>l2 fun _ _=>rfl
 have c_69:=cal P w base d_69 (fun f fd F=>ok69 F T c_68 c_63 c_4) fun _ _ _ _ _ _=>l2 fun _ _=>rfl
 have c_72:=cal P w base d_72 (fun f fd F=>ok72 F T c_8 c_63 c_64 c_71 c_4 c_5) fun _ _ _ _ _ _=>l2 fun _ _=>rfl
 have c_73:=cal P w base d_73 (fun f fd F=>ok73 F T c_8 c_10 c_63 c_65 c_4) fun _ _ _ _ _ _=>l4 fun _ _ _ _=>rfl
 have c_74:=cal P w base d_74 (fun f fd F=>ok74 F T c_9 c_6 c_63 c_5) fun _ _ _ _ _ _=>l4 fun _ _ _ _=>rfl
 have c_75:=cal P w base d_75 (fun f fd F=>ok75 F T c_63 c_64 c_5) fun _ _ _ _ _ _=>l2 fun _ _=>rfl
 have c_76:=cal P w base d_76 (fun f fd F=>ok76 F T c_66 c_67 c_69 c_72 c_73 c_74 c_75) fun _ _ _ _ _ _=>l3 fun _ _ _=>rfl
 obtain ⟨f,fd,F,M,m⟩:=mS.ex
 have mkS:Maker P w K mg base CS "Session" 1 ["self"] ((spSessInit CS)):=⟨f,fd,ok_Session_init F T,F.binds (ps:=["self"]) (fun _ _ _ _ _ _=>l1 fun _=>rfl),M,m⟩
 clear F M m
 obtain ⟨f,fd,F,M⟩:=h_begin.ex
 have m_begin:Method P w K mg base CS "begin" 3 ["self","worlds","prizes"] ((spBegin CT CS)):=⟨f,fd,ok90 F T mkT,F.binds (ps:=["self","worlds","prizes"]) (fun _ _ _ _ _ _=>l3 fun _ _ _=>rfl),M⟩
 clear F M
 obtain ⟨f,fd,F,M⟩:=h_change.ex
 have m_change:Method P w K mg base CS "change" 6 ["self","call","given"] ((spChange CT CS)):=⟨f,fd,ok91 F T c_76,F.binds (ps:=["self","call","given"]) (fun _ _ _ _ _ _=>l3 fun _ _ _=>rfl),M⟩
 clear F M
 obtain ⟨f,fd,F,M⟩:=h_take_back.ex
 have m_take_back:Method P w K mg base CS "take_back" 1 ["self"] ((spSelf CT CS 8)):=⟨f,fd,ok92 F T,F.binds (ps:=["self"]) (fun _ _ _ _ _ _=>l1 fun _=>rfl),M⟩
 clear F M
 obtain ⟨f,fd,F,M⟩:=h_do_again.ex
 have m_do_again:Method P w K mg base CS "do_again" 1 ["self"] ((spSelf CT CS 9)):=⟨f,fd,ok93 F T,F.binds (ps:=["self"]) (fun _ _ _ _ _ _=>l1 fun _=>rfl),M⟩
 clear F M
 obtain ⟨f,fd,F,M⟩:=h_state.ex
 have m_state:Method P w K mg base CS "state" 1 ["self"] ((spSelf CT CS 30)):=⟨f,fd,ok94 F T,F.binds (ps:=["self"]) (fun _ _ _ _ _ _=>l1 fun _=>rfl),M⟩
 clear F M
 obtain ⟨f,fd,F,M⟩:=h_answer.ex
 have m_answer:Method P w K mg base CS "answer" 8 ["self","call","given"] ((spAnswer CT CS)):=⟨f,fd,ok89 F T m_begin m_change m_take_back m_do_again m_state c_62 c_87,F.binds (ps:=["self","call","given"]) (fun _ _ _ _ _ _=>l3 fun _ _ _=>rfl),M⟩
 clear F M
 have c_1:=cal P w base d_1 (fun f fd F=>ok1 F T c_0) fun _ _ _ _ _ _=>l1 fun _=>rfl
 exact ok95 Fz T mkS m_answer c_1
theorem told_at {K:PySem.W.Frag} {h:Heap} {mg:Str->Option Value} {C:Addr} {f0:Addr} {oc0 kV0 doc0 pm0 cdv0 ct0:Value} {od0 an0:Option Addr} {osl0:Array (Option Value)} (X:K.In h) (G:h.Ns mainGlobals mg) (aC:PySem.W.nsIn K mainGlobals "Told"=some (some (.ref C)))
  (pg:PySem.W.plainGet K C Str.empty=true) (hd:PySem.W.hasDictIn K C=true) (po:PySem.W.plainOver K C=true) (sa:PySem.W.findIn K (.ref C) "__setattr__"=some (some (.builtin "object.__setattr__"))) (n_worlds:PySem.W.findIn K (.ref C) "worlds"=some none) (n_prizes:PySem.W.findIn K (.ref C) "prizes"=some none) (n_likelier:PySem.W.findIn K (.ref C) "likelier"=some none) (n_lots:PySem.W.findIn K (.ref C) "lots"=some none) (n_rather:PySem.W.findIn K (.ref C) "rather"=some none)
  (a0:PySem.W.findIn K (.ref C) "__init__"=some (some (.ref f0))) (i0:PySem.W.isFn K (.ref f0)=true) (l0:K.lookup f0=some ⟨oc0,od0,.func (PySem.W.fnOf "__init__" "Told.__init__" (defArgs s_2) (defBody s_2) (defScope s_2) .none kV0 doc0 pm0 an0 cdv0 ct0),osl0⟩) (c0:PySem.W.codeIn K cdv0 "Told.__init__"=true) (k0:PySem.W.keepIn K (.ref f0)=true)
  (mk:PySem.W.makesIn K C=true) (kc:PySem.W.keepIn K (.ref C)=true) :
  ∃ CT,mg "Told"=some (.ref CT)/\L2.Cls K CT/\L2.NoAttr K CT "worlds"/\L2.NoAttr K CT "prizes"/\L2.NoAttr K CT "likelier"/\L2.NoAttr K CT "lots"/\L2.NoAttr K CT "rather"/\MkAt K mg CT "Told" "Told.__init__" s_2:=
 ⟨C,PySem.W.mg_of X G aC,⟨pg,hd,po,sa⟩,n_worlds,n_prizes,n_likelier,n_lots,n_rather,mk_at (PySem.W.mg_of X G aC) a0 i0 l0 c0 k0 mk kc⟩
theorem sess_at {K:PySem.W.Frag} {h:Heap} {mg:Str->Option Value} {C:Addr} {f0:Addr} {oc0 kV0 doc0 pm0 cdv0 ct0:Value} {od0 an0:Option Addr} {osl0:Array (Option Value)} {f_begin:Addr} {oc_begin kV_begin doc_begin pm_begin cdv_begin ct_begin:Value} {od_begin an_begin:Option Addr} {osl_begin:Array (Option Value)} {f_change:Addr} {oc_change kV_change doc_change pm_change cdv_change ct_change:Value} {od_change an_change:Option Addr} {osl_change:Array (Option Value)} {f_take_back:Addr} {oc_take_back kV_take_back doc_take_back pm_take_back cdv_take_back ct_take_back:Value} {od_take_back an_take_back:Option Addr} {osl_take_back:Array (Option Value)} {f_do_again:Addr} {oc_do_again kV_do_again doc_do_again pm_do_again cdv_do_again ct_do_again:Value} {od_do_again an_do_again:Option Addr} {osl_do_again:Array (Option Value)} {f_state:Addr} {oc_state kV_state doc_state pm_state cdv_state ct_state:Value} {od_state an_state:Option Addr} {osl_state:Array (Option Value)} {f_answer:Addr} {oc_answer kV_answer doc_answer pm_answer cdv_answer ct_answer:Value} {od_answer an_answer:Option Addr} {osl_answer:Array (Option Value)} (X:K.In h) (G:h.Ns mainGlobals mg) (aC:PySem.W.nsIn K mainGlobals "Session"=some (some (.ref C)))
  (pg:PySem.W.plainGet K C Str.empty=true) (hd:PySem.W.hasDictIn K C=true) (po:PySem.W.plainOver K C=true) (sa:PySem.W.findIn K (.ref C) "__setattr__"=some (some (.builtin "object.__setattr__"))) (n_told:PySem.W.findIn K (.ref C) "told"=some none) (n_before:PySem.W.findIn K (.ref C) "before"=some none) (n_behind:PySem.W.findIn K (.ref C) "behind"=some none)
  (a0:PySem.W.findIn K (.ref C) "__init__"=some (some (.ref f0))) (i0:PySem.W.isFn K (.ref f0)=true) (l0:K.lookup f0=some ⟨oc0,od0,.func (PySem.W.fnOf "__init__" "Session.__init__" (defArgs s_88) (defBody s_88) (defScope s_88) .none kV0 doc0 pm0 an0 cdv0 ct0),osl0⟩) (c0:PySem.W.codeIn K cdv0 "Session.__init__"=true) (k0:PySem.W.keepIn K (.ref f0)=true)
  (mk:PySem.W.makesIn K C=true) (kc:PySem.W.keepIn K (.ref C)=true)
  (a_begin:PySem.W.findIn K (.ref C) "begin"=some (some (.ref f_begin))) (i_begin:PySem.W.isFn K (.ref f_begin)=true) (l_begin:K.lookup f_begin=some ⟨oc_begin,od_begin,.func (PySem.W.fnOf "begin" "Session.begin" (defArgs s_90) (defBody s_90) (defScope s_90) .none kV_begin doc_begin pm_begin an_begin cdv_begin ct_begin),osl_begin⟩) (c_begin:PySem.W.codeIn K cdv_begin "Session.begin"=true) (k_begin:PySem.W.keepIn K (.ref f_begin)=true)
  (a_change:PySem.W.findIn K (.ref C) "change"=some (some (.ref f_change))) (i_change:PySem.W.isFn K (.ref f_change)=true) (l_change:K.lookup f_change=some ⟨oc_change,od_change,.func (PySem.W.fnOf "change" "Session.change" (defArgs s_91) (defBody s_91) (defScope s_91) .none kV_change doc_change pm_change an_change cdv_change ct_change),osl_change⟩) (c_change:PySem.W.codeIn K cdv_change "Session.change"=true) (k_change:PySem.W.keepIn K (.ref f_change)=true)
  (a_take_back:PySem.W.findIn K (.ref C) "take_back"=some (some (.ref f_take_back))) (i_take_back:PySem.W.isFn K (.ref f_take_back)=true) (l_take_back:K.lookup f_take_back=some ⟨oc_take_back,od_take_back,.func (PySem.W.fnOf "take_back" "Session.take_back" (defArgs s_92) (defBody s_92) (defScope s_92) .none kV_take_back doc_take_back pm_take_back an_take_back cdv_take_back ct_take_back),osl_take_back⟩) (c_take_back:PySem.W.codeIn K cdv_take_back "Session.take_back"=true) (k_take_back:PySem.W.keepIn K (.ref f_take_back)=true)
  (a_do_again:PySem.W.findIn K (.ref C) "do_again"=some (some (.ref f_do_again))) (i_do_again:PySem.W.isFn K (.ref f_do_again)=true) (l_do_again:K.lookup f_do_again=some ⟨oc_do_again,od_do_again,.func (PySem.W.fnOf "do_again" "Session.do_again" (defArgs s_93) (defBody s_93) (defScope s_93) .none kV_do_again doc_do_again pm_do_again an_do_again cdv_do_again ct_do_again),osl_do_again⟩) (c_do_again:PySem.W.codeIn K cdv_do_again "Session.do_again"=true) (k_do_again:PySem.W.keepIn K (.ref f_do_again)=true)
  (a_state:PySem.W.findIn K (.ref C) "state"=some (some (.ref f_state))) (i_state:PySem.W.isFn K (.ref f_state)=true) (l_state:K.lookup f_state=some ⟨oc_state,od_state,.func (PySem.W.fnOf "state" "Session.state" (defArgs s_94) (defBody s_94) (defScope s_94) .none kV_state doc_state pm_state an_state cdv_state ct_state),osl_state⟩) (c_state:PySem.W.codeIn K cdv_state "Session.state"=true) (k_state:PySem.W.keepIn K (.ref f_state)=true)
  (a_answer:PySem.W.findIn K (.ref C) "answer"=some (some (.ref f_answer))) (i_answer:PySem.W.isFn K (.ref f_answer)=true) (l_answer:K.lookup f_answer=some ⟨oc_answer,od_answer,.func (PySem.W.fnOf "answer" "Session.answer" (defArgs s_89) (defBody s_89) (defScope s_89) .none kV_answer doc_answer pm_answer an_answer cdv_answer ct_answer),osl_answer⟩) (c_answer:PySem.W.codeIn K cdv_answer "Session.answer"=true) (k_answer:PySem.W.keepIn K (.ref f_answer)=true) :
  ∃ CS,mg "Session"=some (.ref CS)/\L2.Cls K CS/\L2.NoAttr K CS "told"/\L2.NoAttr K CS "before"/\L2.NoAttr K CS "behind"/\MkAt K mg CS "Session" "Session.__init__" s_88/\MethAt K CS "begin" "Session.begin" s_90/\MethAt K CS "change" "Session.change" s_91/\MethAt K CS "take_back" "Session.take_back" s_92/\MethAt K CS "do_again" "Session.do_again" s_93/\MethAt K CS "state" "Session.state" s_94/\MethAt K CS "answer" "Session.answer" s_89:=
 ⟨C,PySem.W.mg_of X G aC,⟨pg,hd,po,sa⟩,n_told,n_before,n_behind,mk_at (PySem.W.mg_of X G aC) a0 i0 l0 c0 k0 mk kc,meth_at a_begin i_begin l_begin c_begin k_begin,meth_at a_change i_change l_change c_change k_change,meth_at a_take_back i_take_back l_take_back c_take_back k_take_back,meth_at a_do_again i_do_again l_do_again c_do_again k_do_again,meth_at a_state i_state l_state c_state k_state,meth_at a_answer i_answer l_answer c_answer k_answer⟩
theorem const_at {K:PySem.W.Frag} {h:Heap} {mg:Str->Option Value} {x:Str} {i:Int} {t:Tok} (X:K.In h) (G:h.Ns mainGlobals mg) (e:PySem.W.nsIn K mainGlobals x=some (some (.int i t))):∃ t,mg x=some (.int i t):=⟨t,PySem.W.mg_of X G e⟩
def okVals:List Nat->List Value->Bool
 | [],[]=>true
 | n::l,.int i _::us=>i==(n:Int) && okVals l us
 | _,_=>false
theorem vals_ok:∀ (l:List Nat) (us:List Value),okVals l us=true->Vals (nv l) us
 | [],[],_=>.nil
 | n::l,.int i t::us,h=>by
  unfold okVals at h
  rw [Bool.and_eq_true,beq_iff_eq] at h
  obtain ⟨h1,h2⟩:=h
  subst h1
  exact .cons ⟨t,rfl⟩ (vals_ok l us h2)
theorem counts_at {K:PySem.W.Frag} {h:Heap} {mg:Str->Option Value} {a:Addr} {o:Obj} {its:Array Value} {n:Nat} (X:K.In h) (G:h.Ns mainGlobals mg) (ha:PySem.W.nsIn K mainGlobals "COUNTS"=some (some (.ref a))) (hl:K.lookup a=some o) (hc:o.cls=.type "tuple") (hd:o.data=.seq its n) (hs:its.size<=sizeLine) (hv:okVals counts its.toList=true) :
  ∃ a,mg "COUNTS"=some (.ref a)/\∀ H,L2.SqT K H a (nv counts):=⟨a,PySem.W.mg_of X G ha,fun H=>.inr ⟨o,its,n,hl,hc,hd,hs,vals_ok _ _ hv⟩⟩
abbrev DA {K:PySem.W.Frag} {h:Heap} (_:K.In h) (mg:Str->Option Value) (x:Str) (st:Stmt):Prop:=DefAt K mg x st
abbrev TA {K:PySem.W.Frag} {h:Heap} (_:K.In h) (mg:Str->Option Value):Prop:=∃ CT,mg "Told"=some (.ref CT)/\L2.Cls K CT/\L2.NoAttr K CT "worlds"/\L2.NoAttr K CT "prizes"/\L2.NoAttr K CT "likelier"/\L2.NoAttr K CT "lots"/\L2.NoAttr K CT "rather"/\MkAt K mg CT "Told" "Told.__init__" s_2
abbrev SA {K:PySem.W.Frag} {h:Heap} (_:K.In h) (mg:Str->Option Value):Prop:=∃ CS,mg "Session"=some (.ref CS)/\L2.Cls K CS/\L2.NoAttr K CS "told"/\L2.NoAttr K CS "before"/\L2.NoAttr K CS "behind"/\MkAt K mg CS "Session" "Session.__init__" s_88/\MethAt K CS "begin" "Session.begin" s_90/\MethAt K CS "change" "Session.change" s_91/\MethAt K CS "take_back" "Session.take_back" s_92/\MethAt K CS "do_again" "Session.do_again" s_93/\MethAt K CS "state" "Session.state" s_94/\MethAt K CS "answer" "Session.answer" s_89
abbrev CA {K:PySem.W.Frag} {h:Heap} (_:K.In h) (mg:Str->Option Value):Prop:=∃ a,mg "COUNTS"=some (.ref a)/\∀ H,L2.SqT K H a (nv counts)
end My
open PySem PySem.W PyProof.Rows
set_option maxRecDepth 100000 in
set_option maxHeartbeats 0 in
theorem PySem.Challenge.cw_wouldrather_s01_answers_holds : PySem.Challenge.rw_wouldrather_s01_answers.Holds := by
 refine My.head ?_
 k_fillS
 refine L2.walk_specK (r:=PySem.Challenge.rw_wouldrather_s01_answers) (k:=9) (CX:=L2.CX0) (ps:=["calls"]) (sp:=My.spAnswers) (by decide +kernel) rfl rfl ⟨rfl,by decide,by decide⟩ (fun w h Y=>PySem.W.kIn_of Y) ?F ?S (fun _ _ _ _ z=>z)
 case F=>
  intro w mg fa h Y KX G hmg
  have b_len:mg "len"=none:=by
   refine' PySem.W.mg_none_of KX G ?_
   k_is
  have b_sum:mg "sum"=none:=by
   refine' PySem.W.mg_none_of KX G ?_
   k_is
  have b_min:mg "min"=none:=by
   refine' PySem.W.mg_none_of KX G ?_
   k_is
  have b_max:mg "max"=none:=by
   refine' PySem.W.mg_none_of KX G ?_
   k_is
  have b_all:mg "all"=none:=by
   refine' PySem.W.mg_none_of KX G ?_
   k_is
  have b_any:mg "any"=none:=by
   refine' PySem.W.mg_none_of KX G ?_
   k_is
  have b_list:mg "list"=none:=by
   refine' PySem.W.mg_none_of KX G ?_
   k_is
  have b_range:mg "range"=none:=by
   refine' PySem.W.mg_none_of KX G ?_
   k_is
  have b_enumerate:mg "enumerate"=none:=by
   refine' PySem.W.mg_none_of KX G ?_
   k_is
  have b_zip:mg "zip"=none:=by
   refine' PySem.W.mg_none_of KX G ?_
   k_is
  have c_BEGIN:∃ t,mg "BEGIN"=some (.int 0 t):=by
   refine' My.const_at KX G ?e
   (case e=>k_is)
  have c_LIKELIER:∃ t,mg "LIKELIER"=some (.int 1 t):=by
   refine' My.const_at KX G ?e
   (case e=>k_is)
  have c_UNLIKELIER:∃ t,mg "UNLIKELIER"=some (.int 2 t):=by
   refine' My.const_at KX G ?e
   (case e=>k_is)
  have c_LOT:∃ t,mg "LOT"=some (.int 3 t):=by
   refine' My.const_at KX G ?e
   (case e=>k_is)
  have c_UNLOT:∃ t,mg "UNLOT"=some (.int 4 t):=by
   refine' My.const_at KX G ?e
   (case e=>k_is)
  have c_PRIZE:∃ t,mg "PRIZE"=some (.int 5 t):=by
   refine' My.const_at KX G ?e
   (case e=>k_is)
  have c_RATHER:∃ t,mg "RATHER"=some (.int 6 t):=by
   refine' My.const_at KX G ?e
   (case e=>k_is)
  have c_UNRATHER:∃ t,mg "UNRATHER"=some (.int 7 t):=by
   refine' My.const_at KX G ?e
   (case e=>k_is)
  have c_BACK:∃ t,mg "BACK"=some (.int 8 t):=by
   refine' My.const_at KX G ?e
   (case e=>k_is)
  have c_AGAIN:∃ t,mg "AGAIN"=some (.int 9 t):=by
   refine' My.const_at KX G ?e
   (case e=>k_is)
  have c_CHANCES:∃ t,mg "CHANCES"=some (.int 10 t):=by
   refine' My.const_at KX G ?e
   (case e=>k_is)
  have c_WAYS:∃ t,mg "WAYS"=some (.int 11 t):=by
   refine' My.const_at KX G ?e
   (case e=>k_is)
  have c_LEAST:∃ t,mg "LEAST"=some (.int 12 t):=by
   refine' My.const_at KX G ?e
   (case e=>k_is)
  have c_FITS:∃ t,mg "FITS"=some (.int 13 t):=by
   refine' My.const_at KX G ?e
   (case e=>k_is)
  have c_WORTH:∃ t,mg "WORTH"=some (.int 14 t):=by
   refine' My.const_at KX G ?e
   (case e=>k_is)
  have c_MORE:∃ t,mg "MORE"=some (.int 15 t):=by
   refine' My.const_at KX G ?e
   (case e=>k_is)
  have c_MAY:∃ t,mg "MAY"=some (.int 16 t):=by
   refine' My.const_at KX G ?e
   (case e=>k_is)
  have c_INEACH:∃ t,mg "INEACH"=some (.int 17 t):=by
   refine' My.const_at KX G ?e
   (case e=>k_is)
  have c_BEST:∃ t,mg "BEST"=some (.int 18 t):=by
   refine' My.const_at KX G ?e
   (case e=>k_is)
  have c_MAYBEST:∃ t,mg "MAYBEST"=some (.int 19 t):=by
   refine' My.const_at KX G ?e
   (case e=>k_is)
  have c_PRIZES:∃ t,mg "PRIZES"=some (.int 20 t):=by
   refine' My.const_at KX G ?e
   (case e=>k_is)
  have c_LEARN:∃ t,mg "LEARN"=some (.int 21 t):=by
   refine' My.const_at KX G ?e
   (case e=>k_is)
  have c_LEARNALL:∃ t,mg "LEARNALL"=some (.int 22 t):=by
   refine' My.const_at KX G ?e
   (case e=>k_is)
  have c_CLASHES:∃ t,mg "CLASHES"=some (.int 23 t):=by
   refine' My.const_at KX G ?e
   (case e=>k_is)
  have c_SPARE:∃ t,mg "SPARE"=some (.int 24 t):=by
   refine' My.const_at KX G ?e
   (case e=>k_is)
  have c_WRONG:∃ t,mg "WRONG"=some (.int 25 t):=by
   refine' My.const_at KX G ?e
   (case e=>k_is)
  have c_SIDE:∃ t,mg "SIDE"=some (.int 26 t):=by
   refine' My.const_at KX G ?e
   (case e=>k_is)
  have c_RULES:∃ t,mg "RULES"=some (.int 27 t):=by
   refine' My.const_at KX G ?e
   (case e=>k_is)
  have c_LOOK:∃ t,mg "LOOK"=some (.int 28 t):=by
   refine' My.const_at KX G ?e
   (case e=>k_is)
  have c_STATE:∃ t,mg "STATE"=some (.int 30 t):=by
   refine' My.const_at KX G ?e
   (case e=>k_is)
  have c_NONE_SUCH:∃ t,mg "NONE_SUCH"=some (.int (-2) t):=by
   refine' My.const_at KX G ?e
   (case e=>k_is)
  have c_NOTHING_THERE:∃ t,mg "NOTHING_THERE"=some (.int (-6) t):=by
   refine' My.const_at KX G ?e
   (case e=>k_is)
  have c_BEFORE_BEGIN:∃ t,mg "BEFORE_BEGIN"=some (.int (-11) t):=by
   refine' My.const_at KX G ?e
   (case e=>k_is)
  have c_NOT_RIGHT:∃ t,mg "NOT_RIGHT"=some (.int (-22) t):=by
   refine' My.const_at KX G ?e
   (case e=>k_is)
  have c_TOO_MANY:∃ t,mg "TOO_MANY"=some (.int (-28) t):=by
   refine' My.const_at KX G ?e
   (case e=>k_is)
  have c_NO_NUMBERS:∃ t,mg "NO_NUMBERS"=some (.int (-33) t):=by
   refine' My.const_at KX G ?e
   (case e=>k_is)
  have c_NO_CHANCES:∃ t,mg "NO_CHANCES"=some (.int (-61) t):=by
   refine' My.const_at KX G ?e
   (case e=>k_is)
  have c_LAST_KIND:∃ t,mg "LAST_KIND"=some (.int 2 t):=by
   refine' My.const_at KX G ?e
   (case e=>k_is)
  have c_LEAST_NUMBER:∃ t,mg "LEAST_NUMBER"=some (.int 1 t):=by
   refine' My.const_at KX G ?e
   (case e=>k_is)
  have c_GREATEST_NUMBER:∃ t,mg "GREATEST_NUMBER"=some (.int 8 t):=by
   refine' My.const_at KX G ?e
   (case e=>k_is)
  have c_MOST_TOGETHER:∃ t,mg "MOST_TOGETHER"=some (.int 10 t):=by
   refine' My.const_at KX G ?e
   (case e=>k_is)
  have c_MOST_LIKELIER:∃ t,mg "MOST_LIKELIER"=some (.int 4 t):=by
   refine' My.const_at KX G ?e
   (case e=>k_is)
  have c_MOST_LOTS:∃ t,mg "MOST_LOTS"=some (.int 5 t):=by
   refine' My.const_at KX G ?e
   (case e=>k_is)
  have c_MOST_RATHER:∃ t,mg "MOST_RATHER"=some (.int 5 t):=by
   refine' My.const_at KX G ?e
   (case e=>k_is)
  have c_NOTHING:∃ t,mg "NOTHING"=some (.int 0 t):=by
   refine' My.const_at KX G ?e
   (case e=>k_is)
  have c_NO_LESS_LIKELY:∃ t,mg "NO_LESS_LIKELY"=some (.int 1 t):=by
   refine' My.const_at KX G ?e
   (case e=>k_is)
  have c_IS_LIKELIER:∃ t,mg "IS_LIKELIER"=some (.int 2 t):=by
   refine' My.const_at KX G ?e
   (case e=>k_is)
  have c_MOST_WORLDS:∃ t,mg "MOST_WORLDS"=some (.int 4 t):=by
   refine' My.const_at KX G ?e
   (case e=>k_is)
  have c_MOST_PRIZES:∃ t,mg "MOST_PRIZES"=some (.int 4 t):=by
   refine' My.const_at KX G ?e
   (case e=>k_is)
  have c_MOST_KEPT:∃ t,mg "MOST_KEPT"=some (.int 20 t):=by
   refine' My.const_at KX G ?e
   (case e=>k_is)
  have d_6:My.DA KX mg "is_kind" My.s_6:=by
   refine' My.def_at KX G ?a ?l ?c ?k
   (case a=>k_is);(case l=>k_is);(case c=>k_is);(case k=>k_is)
  have d_0:My.DA KX mg "has_row" My.s_0:=by
   refine' My.def_at KX G ?a ?l ?c ?k
   (case a=>k_is);(case l=>k_is);(case c=>k_is);(case k=>k_is)
  have d_7:My.DA KX mg "is_world_set" My.s_7:=by
   refine' My.def_at KX G ?a ?l ?c ?k
   (case a=>k_is);(case l=>k_is);(case c=>k_is);(case k=>k_is)
  have d_8:My.DA KX mg "has_lot" My.s_8:=by
   refine' My.def_at KX G ?a ?l ?c ?k
   (case a=>k_is);(case l=>k_is);(case c=>k_is);(case k=>k_is)
  have d_9:My.DA KX mg "has_lots" My.s_9:=by
   refine' My.def_at KX G ?a ?l ?c ?k
   (case a=>k_is);(case l=>k_is);(case c=>k_is);(case k=>k_is)
  have d_10:My.DA KX mg "has_prize" My.s_10:=by
   refine' My.def_at KX G ?a ?l ?c ?k
   (case a=>k_is);(case l=>k_is);(case c=>k_is);(case k=>k_is)
  have d_11:My.DA KX mg "holds" My.s_11:=by
   refine' My.def_at KX G ?a ?l ?c ?k
   (case a=>k_is);(case l=>k_is);(case c=>k_is);(case k=>k_is)
  have d_22:My.DA KX mg "is_member" My.s_22:=by
   refine' My.def_at KX G ?a ?l ?c ?k
   (case a=>k_is);(case l=>k_is);(case c=>k_is);(case k=>k_is)
  have d_25:My.DA KX mg "set_of_all" My.s_25:=by
   refine' My.def_at KX G ?a ?l ?c ?k
   (case a=>k_is);(case l=>k_is);(case c=>k_is);(case k=>k_is)
  have d_24:My.DA KX mg "set_of" My.s_24:=by
   refine' My.def_at KX G ?a ?l ?c ?k
   (case a=>k_is);(case l=>k_is);(case c=>k_is);(case k=>k_is)
  have d_40:My.DA KX mg "common_divisor" My.s_40:=by
   refine' My.def_at KX G ?a ?l ?c ?k
   (case a=>k_is);(case l=>k_is);(case c=>k_is);(case k=>k_is)
  have d_41:My.DA KX mg "fraction" My.s_41:=by
   refine' My.def_at KX G ?a ?l ?c ?k
   (case a=>k_is);(case l=>k_is);(case c=>k_is);(case k=>k_is)
  have d_12:My.DA KX mg "is_numbers" My.s_12:=by
   refine' My.def_at KX G ?a ?l ?c ?k
   (case a=>k_is);(case l=>k_is);(case c=>k_is);(case k=>k_is)
  have d_13:My.DA KX mg "all_numbers" My.s_13:=by
   refine' My.def_at KX G ?a ?l ?c ?k
   (case a=>k_is);(case l=>k_is);(case c=>k_is);(case k=>k_is)
  have d_14:My.DA KX mg "prize_shares" My.s_14:=by
   refine' My.def_at KX G ?a ?l ?c ?k
   (case a=>k_is);(case l=>k_is);(case c=>k_is);(case k=>k_is)
  have d_15:My.DA KX mg "prize_gaps" My.s_15:=by
   refine' My.def_at KX G ?a ?l ?c ?k
   (case a=>k_is);(case l=>k_is);(case c=>k_is);(case k=>k_is)
  have d_16:My.DA KX mg "weighed" My.s_16:=by
   refine' My.def_at KX G ?a ?l ?c ?k
   (case a=>k_is);(case l=>k_is);(case c=>k_is);(case k=>k_is)
  have d_17:My.DA KX mg "rather_gaps" My.s_17:=by
   refine' My.def_at KX G ?a ?l ?c ?k
   (case a=>k_is);(case l=>k_is);(case c=>k_is);(case k=>k_is)
  have d_18:My.DA KX mg "numbers_agree" My.s_18:=by
   refine' My.def_at KX G ?a ?l ?c ?k
   (case a=>k_is);(case l=>k_is);(case c=>k_is);(case k=>k_is)
  have d_19:My.DA KX mg "agreeing" My.s_19:=by
   refine' My.def_at KX G ?a ?l ?c ?k
   (case a=>k_is);(case l=>k_is);(case c=>k_is);(case k=>k_is)
  have d_20:My.DA KX mg "disagreed_with" My.s_20:=by
   refine' My.def_at KX G ?a ?l ?c ?k
   (case a=>k_is);(case l=>k_is);(case c=>k_is);(case k=>k_is)
  have d_21:My.DA KX mg "all_that_fit" My.s_21:=by
   refine' My.def_at KX G ?a ?l ?c ?k
   (case a=>k_is);(case l=>k_is);(case c=>k_is);(case k=>k_is)
  have d_48:My.DA KX mg "set_share" My.s_48:=by
   refine' My.def_at KX G ?a ?l ?c ?k
   (case a=>k_is);(case l=>k_is);(case c=>k_is);(case k=>k_is)
  have d_49:My.DA KX mg "shares_agree" My.s_49:=by
   refine' My.def_at KX G ?a ?l ?c ?k
   (case a=>k_is);(case l=>k_is);(case c=>k_is);(case k=>k_is)
  have d_47:My.DA KX mg "splits" My.s_47:=by
   refine' My.def_at KX G ?a ?l ?c ?k
   (case a=>k_is);(case l=>k_is);(case c=>k_is);(case k=>k_is)
  have d_50:My.DA KX mg "chances_gone_by" My.s_50:=by
   refine' My.def_at KX G ?a ?l ?c ?k
   (case a=>k_is);(case l=>k_is);(case c=>k_is);(case k=>k_is)
  have d_23:My.DA KX mg "members" My.s_23:=by
   refine' My.def_at KX G ?a ?l ?c ?k
   (case a=>k_is);(case l=>k_is);(case c=>k_is);(case k=>k_is)
  have d_26:My.DA KX mg "wrong_sets" My.s_26:=by
   refine' My.def_at KX G ?a ?l ?c ?k
   (case a=>k_is);(case l=>k_is);(case c=>k_is);(case k=>k_is)
  have d_27:My.DA KX mg "go_together" My.s_27:=by
   refine' My.def_at KX G ?a ?l ?c ?k
   (case a=>k_is);(case l=>k_is);(case c=>k_is);(case k=>k_is)
  have d_28:My.DA KX mg "is_clash" My.s_28:=by
   refine' My.def_at KX G ?a ?l ?c ?k
   (case a=>k_is);(case l=>k_is);(case c=>k_is);(case k=>k_is)
  have d_29:My.DA KX mg "all_clashes" My.s_29:=by
   refine' My.def_at KX G ?a ?l ?c ?k
   (case a=>k_is);(case l=>k_is);(case c=>k_is);(case k=>k_is)
  have d_30:My.DA KX mg "all_to_spare" My.s_30:=by
   refine' My.def_at KX G ?a ?l ?c ?k
   (case a=>k_is);(case l=>k_is);(case c=>k_is);(case k=>k_is)
  have d_31:My.DA KX mg "least_numbers" My.s_31:=by
   refine' My.def_at KX G ?a ?l ?c ?k
   (case a=>k_is);(case l=>k_is);(case c=>k_is);(case k=>k_is)
  have d_32:My.DA KX mg "least_and_greatest_sum" My.s_32:=by
   refine' My.def_at KX G ?a ?l ?c ?k
   (case a=>k_is);(case l=>k_is);(case c=>k_is);(case k=>k_is)
  have d_33:My.DA KX mg "surely_above" My.s_33:=by
   refine' My.def_at KX G ?a ?l ?c ?k
   (case a=>k_is);(case l=>k_is);(case c=>k_is);(case k=>k_is)
  have d_34:My.DA KX mg "surely_more" My.s_34:=by
   refine' My.def_at KX G ?a ?l ?c ?k
   (case a=>k_is);(case l=>k_is);(case c=>k_is);(case k=>k_is)
  have d_35:My.DA KX mg "prize_surely_more" My.s_35:=by
   refine' My.def_at KX G ?a ?l ?c ?k
   (case a=>k_is);(case l=>k_is);(case c=>k_is);(case k=>k_is)
  have d_36:My.DA KX mg "some_agree" My.s_36:=by
   refine' My.def_at KX G ?a ?l ?c ?k
   (case a=>k_is);(case l=>k_is);(case c=>k_is);(case k=>k_is)
  have d_37:My.DA KX mg "no_worse_in_each_world" My.s_37:=by
   refine' My.def_at KX G ?a ?l ?c ?k
   (case a=>k_is);(case l=>k_is);(case c=>k_is);(case k=>k_is)
  have d_38:My.DA KX mg "times_at_the_top" My.s_38:=by
   refine' My.def_at KX G ?a ?l ?c ?k
   (case a=>k_is);(case l=>k_is);(case c=>k_is);(case k=>k_is)
  have d_39:My.DA KX mg "best_lots" My.s_39:=by
   refine' My.def_at KX G ?a ?l ?c ?k
   (case a=>k_is);(case l=>k_is);(case c=>k_is);(case k=>k_is)
  have d_42:My.DA KX mg "sum_over" My.s_42:=by
   refine' My.def_at KX G ?a ?l ?c ?k
   (case a=>k_is);(case l=>k_is);(case c=>k_is);(case k=>k_is)
  have d_43:My.DA KX mg "best_over" My.s_43:=by
   refine' My.def_at KX G ?a ?l ?c ?k
   (case a=>k_is);(case l=>k_is);(case c=>k_is);(case k=>k_is)
  have d_44:My.DA KX mg "worth_of_learning" My.s_44:=by
   refine' My.def_at KX G ?a ?l ?c ?k
   (case a=>k_is);(case l=>k_is);(case c=>k_is);(case k=>k_is)
  have d_45:My.DA KX mg "worth_of_learning_whether" My.s_45:=by
   refine' My.def_at KX G ?a ?l ?c ?k
   (case a=>k_is);(case l=>k_is);(case c=>k_is);(case k=>k_is)
  have d_46:My.DA KX mg "worth_of_learning_all" My.s_46:=by
   refine' My.def_at KX G ?a ?l ?c ?k
   (case a=>k_is);(case l=>k_is);(case c=>k_is);(case k=>k_is)
  have d_77:My.DA KX mg "standing" My.s_77:=by
   refine' My.def_at KX G ?a ?l ?c ?k
   (case a=>k_is);(case l=>k_is);(case c=>k_is);(case k=>k_is)
  have d_78:My.DA KX mg "take_down" My.s_78:=by
   refine' My.def_at KX G ?a ?l ?c ?k
   (case a=>k_is);(case l=>k_is);(case c=>k_is);(case k=>k_is)
  have d_79:My.DA KX mg "take_down_told" My.s_79:=by
   refine' My.def_at KX G ?a ?l ?c ?k
   (case a=>k_is);(case l=>k_is);(case c=>k_is);(case k=>k_is)
  have d_80:My.DA KX mg "known_at_once" My.s_80:=by
   refine' My.def_at KX G ?a ?l ?c ?k
   (case a=>k_is);(case l=>k_is);(case c=>k_is);(case k=>k_is)
  have d_81:My.DA KX mg "go_on_from" My.s_81:=by
   refine' My.def_at KX G ?a ?l ?c ?k
   (case a=>k_is);(case l=>k_is);(case c=>k_is);(case k=>k_is)
  have d_82:My.DA KX mg "go_on_from_all" My.s_82:=by
   refine' My.def_at KX G ?a ?l ?c ?k
   (case a=>k_is);(case l=>k_is);(case c=>k_is);(case k=>k_is)
  have d_83:My.DA KX mg "by_rules" My.s_83:=by
   refine' My.def_at KX G ?a ?l ?c ?k
   (case a=>k_is);(case l=>k_is);(case c=>k_is);(case k=>k_is)
  have d_51:My.DA KX mg "counted" My.s_51:=by
   refine' My.def_at KX G ?a ?l ?c ?k
   (case a=>k_is);(case l=>k_is);(case c=>k_is);(case k=>k_is)
  have d_52:My.DA KX mg "yes_or_no" My.s_52:=by
   refine' My.def_at KX G ?a ?l ?c ?k
   (case a=>k_is);(case l=>k_is);(case c=>k_is);(case k=>k_is)
  have d_53:My.DA KX mg "lots_given" My.s_53:=by
   refine' My.def_at KX G ?a ?l ?c ?k
   (case a=>k_is);(case l=>k_is);(case c=>k_is);(case k=>k_is)
  have d_54:My.DA KX mg "is_given_there" My.s_54:=by
   refine' My.def_at KX G ?a ?l ?c ?k
   (case a=>k_is);(case l=>k_is);(case c=>k_is);(case k=>k_is)
  have d_55:My.DA KX mg "is_given_right" My.s_55:=by
   refine' My.def_at KX G ?a ?l ?c ?k
   (case a=>k_is);(case l=>k_is);(case c=>k_is);(case k=>k_is)
  have d_56:My.DA KX mg "refusal_of_given" My.s_56:=by
   refine' My.def_at KX G ?a ?l ?c ?k
   (case a=>k_is);(case l=>k_is);(case c=>k_is);(case k=>k_is)
  have d_57:My.DA KX mg "least" My.s_57:=by
   refine' My.def_at KX G ?a ?l ?c ?k
   (case a=>k_is);(case l=>k_is);(case c=>k_is);(case k=>k_is)
  have d_58:My.DA KX mg "worth" My.s_58:=by
   refine' My.def_at KX G ?a ?l ?c ?k
   (case a=>k_is);(case l=>k_is);(case c=>k_is);(case k=>k_is)
  have d_59:My.DA KX mg "clashes" My.s_59:=by
   refine' My.def_at KX G ?a ?l ?c ?k
   (case a=>k_is);(case l=>k_is);(case c=>k_is);(case k=>k_is)
  have d_60:My.DA KX mg "asked_of_two" My.s_60:=by
   refine' My.def_at KX G ?a ?l ?c ?k
   (case a=>k_is);(case l=>k_is);(case c=>k_is);(case k=>k_is)
  have d_61:My.DA KX mg "asked_of_numbers" My.s_61:=by
   refine' My.def_at KX G ?a ?l ?c ?k
   (case a=>k_is);(case l=>k_is);(case c=>k_is);(case k=>k_is)
  have d_62:My.DA KX mg "asked" My.s_62:=by
   refine' My.def_at KX G ?a ?l ?c ?k
   (case a=>k_is);(case l=>k_is);(case c=>k_is);(case k=>k_is)
  have d_84:My.DA KX mg "look" My.s_84:=by
   refine' My.def_at KX G ?a ?l ?c ?k
   (case a=>k_is);(case l=>k_is);(case c=>k_is);(case k=>k_is)
  have d_85:My.DA KX mg "told_rather" My.s_85:=by
   refine' My.def_at KX G ?a ?l ?c ?k
   (case a=>k_is);(case l=>k_is);(case c=>k_is);(case k=>k_is)
  have d_86:My.DA KX mg "asked_by_rules" My.s_86:=by
   refine' My.def_at KX G ?a ?l ?c ?k
   (case a=>k_is);(case l=>k_is);(case c=>k_is);(case k=>k_is)
  have d_87:My.DA KX mg "recalled" My.s_87:=by
   refine' My.def_at KX G ?a ?l ?c ?k
   (case a=>k_is);(case l=>k_is);(case c=>k_is);(case k=>k_is)
  have d_3:My.DA KX mg "with_likelier" My.s_3:=by
   refine' My.def_at KX G ?a ?l ?c ?k
   (case a=>k_is);(case l=>k_is);(case c=>k_is);(case k=>k_is)
  have d_4:My.DA KX mg "with_lots" My.s_4:=by
   refine' My.def_at KX G ?a ?l ?c ?k
   (case a=>k_is);(case l=>k_is);(case c=>k_is);(case k=>k_is)
  have d_5:My.DA KX mg "with_rather" My.s_5:=by
   refine' My.def_at KX G ?a ?l ?c ?k
   (case a=>k_is);(case l=>k_is);(case c=>k_is);(case k=>k_is)
  have d_63:My.DA KX mg "refused" My.s_63:=by
   refine' My.def_at KX G ?a ?l ?c ?k
   (case a=>k_is);(case l=>k_is);(case c=>k_is);(case k=>k_is)
  have d_64:My.DA KX mg "without" My.s_64:=by
   refine' My.def_at KX G ?a ?l ?c ?k
   (case a=>k_is);(case l=>k_is);(case c=>k_is);(case k=>k_is)
  have d_65:My.DA KX mg "replaced" My.s_65:=by
   refine' My.def_at KX G ?a ?l ?c ?k
   (case a=>k_is);(case l=>k_is);(case c=>k_is);(case k=>k_is)
  have d_68:My.DA KX mg "is_prize_for_each_world" My.s_68:=by
   refine' My.def_at KX G ?a ?l ?c ?k
   (case a=>k_is);(case l=>k_is);(case c=>k_is);(case k=>k_is)
  have d_70:My.DA KX mg "moved_up" My.s_70:=by
   refine' My.def_at KX G ?a ?l ?c ?k
   (case a=>k_is);(case l=>k_is);(case c=>k_is);(case k=>k_is)
  have d_71:My.DA KX mg "rather_without_lot" My.s_71:=by
   refine' My.def_at KX G ?a ?l ?c ?k
   (case a=>k_is);(case l=>k_is);(case c=>k_is);(case k=>k_is)
  have d_66:My.DA KX mg "tell_likelier" My.s_66:=by
   refine' My.def_at KX G ?a ?l ?c ?k
   (case a=>k_is);(case l=>k_is);(case c=>k_is);(case k=>k_is)
  have d_67:My.DA KX mg "untell_likelier" My.s_67:=by
   refine' My.def_at KX G ?a ?l ?c ?k
   (case a=>k_is);(case l=>k_is);(case c=>k_is);(case k=>k_is)
  have d_69:My.DA KX mg "add_lot" My.s_69:=by
   refine' My.def_at KX G ?a ?l ?c ?k
   (case a=>k_is);(case l=>k_is);(case c=>k_is);(case k=>k_is)
  have d_72:My.DA KX mg "remove_lot" My.s_72:=by
   refine' My.def_at KX G ?a ?l ?c ?k
   (case a=>k_is);(case l=>k_is);(case c=>k_is);(case k=>k_is)
  have d_73:My.DA KX mg "set_prize" My.s_73:=by
   refine' My.def_at KX G ?a ?l ?c ?k
   (case a=>k_is);(case l=>k_is);(case c=>k_is);(case k=>k_is)
  have d_74:My.DA KX mg "tell_rather" My.s_74:=by
   refine' My.def_at KX G ?a ?l ?c ?k
   (case a=>k_is);(case l=>k_is);(case c=>k_is);(case k=>k_is)
  have d_75:My.DA KX mg "untell_rather" My.s_75:=by
   refine' My.def_at KX G ?a ?l ?c ?k
   (case a=>k_is);(case l=>k_is);(case c=>k_is);(case k=>k_is)
  have d_76:My.DA KX mg "changed" My.s_76:=by
   refine' My.def_at KX G ?a ?l ?c ?k
   (case a=>k_is);(case l=>k_is);(case c=>k_is);(case k=>k_is)
  have d_1:My.DA KX mg "read_calls" My.s_1:=by
   refine' My.def_at KX G ?a ?l ?c ?k
   (case a=>k_is);(case l=>k_is);(case c=>k_is);(case k=>k_is)
  have d_95:My.DA KX mg "answers" My.s_95:=by
   refine' My.def_at KX G ?a ?l ?c ?k
   (case a=>k_is);(case l=>k_is);(case c=>k_is);(case k=>k_is)
  have tAt:My.TA KX mg:=by
   refine' My.told_at KX G ?aC ?pg ?hd ?po ?sa ?n_worlds ?n_prizes ?n_likelier ?n_lots ?n_rather ?a ?i ?l ?c ?k ?mk ?kc
   (case aC=>k_is);(case pg=>k_is);(case hd=>k_is);(case po=>k_is);(case sa=>k_is);(case n_worlds=>k_is);(case n_prizes=>k_is);(case n_likelier=>k_is);(case n_lots=>k_is);(case n_rather=>k_is);(case a=>k_is);(case i=>k_is);(case l=>k_is);(case c=>k_is);(case k=>k_is);(case mk=>k_is);(case kc=>k_is)
  have sAt:My.SA KX mg:=by
   refine' My.sess_at KX G ?aC ?pg ?hd ?po ?sa ?n_told ?n_before ?n_behind ?a ?i ?l ?c ?k ?mk ?kc ?a_begin ?i_begin ?l_begin ?c_begin ?k_begin ?a_change ?i_change ?l_change ?c_change ?k_change ?a_take_back ?i_take_back ?l_take_back ?c_take_back ?k_take_back ?a_do_again ?i_do_again ?l_do_again ?c_do_again ?k_do_again ?a_state ?i_state ?l_state ?c_state ?k_state ?a_answer ?i_answer ?l_answer ?c_answer ?k_answer
   (case aC=>k_is);(case pg=>k_is);(case hd=>k_is);(case po=>k_is);(case sa=>k_is);(case n_told=>k_is);(case n_before=>k_is);(case n_behind=>k_is);(case a=>k_is);(case i=>k_is);(case l=>k_is);(case c=>k_is);(case k=>k_is);(case mk=>k_is);(case kc=>k_is)
   (case a_begin=>k_is);(case i_begin=>k_is);(case l_begin=>k_is);(case c_begin=>k_is);(case k_begin=>k_is)
   (case a_change=>k_is);(case i_change=>k_is);(case l_change=>k_is);(case c_change=>k_is);(case k_change=>k_is)
   (case a_take_back=>k_is);(case i_take_back=>k_is);(case l_take_back=>k_is);(case c_take_back=>k_is);(case k_take_back=>k_is)
   (case a_do_again=>k_is);(case i_do_again=>k_is);(case l_do_again=>k_is);(case c_do_again=>k_is);(case k_do_again=>k_is)
   (case a_state=>k_is);(case i_state=>k_is);(case l_state=>k_is);(case c_state=>k_is);(case k_state=>k_is)
   (case a_answer=>k_is);(case i_answer=>k_is);(case l_answer=>k_is);(case c_answer=>k_is);(case k_answer=>k_is)
  have cAt:My.CA KX mg:=by
   refine' My.counts_at KX G ?a ?l ?c ?d ?s ?v
   (case a=>k_is);(case l=>k_is);(case c=>rfl);(case d=>rfl);(case s=>decide +kernel);(case v=>rfl)
  obtain ⟨CT,mT,clT,nW,nP,nK,nL,nR,kT⟩:=tAt
  obtain ⟨CS,mS,clS,nT,nB,nH,kS,h_begin,h_change,h_take_back,h_do_again,h_state,h_answer⟩:=sAt
  have T:My.Txt _ mg CT CS:=⟨clT,nW,nP,nK,nL,nR,clS,nT,nB,nH,b_len,b_sum,b_min,b_max,b_all,b_any,b_list,b_range,b_enumerate,b_zip,c_BEGIN,c_LIKELIER,c_UNLIKELIER,c_LOT,c_UNLOT,c_PRIZE,c_RATHER,c_UNRATHER,c_BACK,c_AGAIN,c_CHANCES,c_WAYS,c_LEAST,c_FITS,c_WORTH,c_MORE,c_MAY,c_INEACH,c_BEST,c_MAYBEST,c_PRIZES,c_LEARN,c_LEARNALL,c_CLASHES,c_SPARE,c_WRONG,c_SIDE,c_RULES,c_LOOK,c_STATE,c_NONE_SUCH,c_NOTHING_THERE,c_BEFORE_BEGIN,c_NOT_RIGHT,c_TOO_MANY,c_NO_NUMBERS,c_NO_CHANCES,c_LAST_KIND,c_LEAST_NUMBER,c_GREATEST_NUMBER,c_MOST_TOGETHER,c_MOST_LIKELIER,c_MOST_LOTS,c_MOST_RATHER,c_NOTHING,c_NO_LESS_LIKELY,c_IS_LIKELIER,c_MOST_WORLDS,c_MOST_PRIZES,c_MOST_KEPT,cAt⟩
  obtain ⟨fd,h1,h2⟩:=My.all_ok hmg T kT kS d_6 d_0 d_7 d_8 d_9 d_10 d_11 d_22 d_25 d_24 d_40 d_41 d_12 d_13 d_14 d_15 d_16 d_17 d_18 d_19 d_20 d_21 d_48 d_49 d_47 d_50 d_23 d_26 d_27 d_28 d_29 d_30 d_31 d_32 d_33 d_34 d_35 d_36 d_37 d_38 d_39 d_42 d_43 d_44 d_45 d_46 d_77 d_78 d_79 d_80 d_81 d_82 d_83 d_51 d_52 d_53 d_54 d_55 d_56 d_57 d_58 d_59 d_60 d_61 d_62 d_84 d_85 d_86 d_87 d_3 d_4 d_5 d_63 d_64 d_65 d_68 d_70 d_71 d_66 d_67 d_69 d_72 d_73 d_74 d_75 d_76 h_begin h_change h_take_back h_do_again h_state h_answer d_1 d_95
  exact ⟨fd,h1,fun base _ _=>h2 base⟩
 case S=>
  intro K H xs a hO hwi hask hx
  cases hx with
  | cons h1 h2=>
   cases h2
   cases h1 with
   | lst hs ha=>
    have e:=L2.ints_dw a.1 _ ha
    subst e
    exact ⟨_,a.1,rfl,hs,hask,fun H' p hp=>.lst (L2.SqL.of hp) (L2.dw_ints _)⟩
