import PyProof.Rows.All
import Wide.All
import OpenK.AllK
import Wide.FinOn
import KE.OsGo
import PySem.Challenge.RW_manyonline_s01_answers
import PyProof.EqAt
import PyProof.EqKinds
import PyProof.TupleCall
import KE.BitLaws
import Open.SpecLaws
import PyRc28
import PyProof.Rows.SortShellAny
set_option Elab.async false
set_option linter.all false
set_option maxRecDepth 100000
set_option maxHeartbeats 0
set_option compiler.extract_closed false
set_option bootstrap.genMatcherCode false
namespace My
open PySem PySem.W PyProof.Rows
def qv:Program:={PySem.Challenge.pw_manyonline_s01_answers with main:={PySem.Challenge.pw_manyonline_s01_answers.main with body:=[PySem.Challenge.pw_manyonline_s01_answers.main.body.getD 117 (.Pass ⟨0,0,0,0⟩),PySem.Challenge.pw_manyonline_s01_answers.main.body.getD 189 (.Pass ⟨0,0,0,0⟩)]}}
def lsv:List PySem.Str:=(["DATA_FRAME","HEADERS_FRAME","RESET_FRAME","SETTINGS_FRAME","PING_FRAME","AWAY_FRAME","WINDOW_FRAME","MORE_FRAME","LAST","ANSWERED","WHOLE","PADDED","WITH_PRIORITY","FINE","OUT_OF_RULE","WINDOW_TOO_LARGE","NO_MORE_MAY_COME","WRONG_LENGTH","TOO_MANY_STREAMS","WRONGLY_PACKED","TOO_MUCH","MOST_IN_FRAME","Frame","without_padding","LOWER_31_BITS","SEVEN_BITS","SIX_BITS","FIVE_BITS","FOUR_BITS","bytes_of_text","bytes_of_number","number_of_bytes","number_without_top_bit","COLON","BLANKS","BARRED_NAMES","NEEDED_ONCE","Header","weight_of_header","weight_of_headers","is_plain_name","is_plain_name_byte","is_plain_value","is_plain","are_trailers","begins_with_colon","are_request_headers","are_leading_headers","have_right_values","are_answer_headers","is_status","NOTHING","REQUEST","TRAILERS","DATA","RESET","GOES_AWAY","Event","nothing_told","headers_event","data_event","weight_of_event","numbers_of_event","FIXED_ROWS","fixed_headers","fixed_header","MOST_HELD","Table","MOST_STREAMS","MOST_WAITING","WINDOW_AT_FIRST","STREAMS_SETTING","Stream","Line","begin_line","send_frame","fail_line","fail_stream","end_stream","is_idle","tell","too_much_unsent","must_wait","KNOWN","pack","packed_header","number_of_header","number_of_name","packed_text","packed_number","DONE","NOT_RIGHT","TOO_MUCH_UNSENT","LINE_HAS_FAILED","MOST_HEADER_BYTES","MOST_DATA_BYTES","LENGTH_BYTES","EMPTY_TABLE","answer_stream","read_headers","block_of","send_block","pieces_of","send_data","send_data_frames","reset_stream","go_away","BlockReader","unpack","unpack_header","known_header","spelled_header","resize_table","MOST_BLOCK_BYTES","MOST_HEADERS_WEIGHT","Block","go_on_with_block","add_to_block","end_block","end_with_trailers","begin_stream","MOST_WINDOW","SETTING_BYTES","PUSH_SETTING","WINDOW_SETTING","LENGTH_SETTING","LEAST_FRAME_LENGTH","MOST_FRAME_LENGTH","take_settings","take_setting","change_first_window","grow_window","data_came","give_back_room","headers_came","priority_came","reset_came","settings_came","never_right","ping_came","away_came","window_came","BY_KIND","frame_came","FIRST_BYTES","FRAME_HEAD","MOST_FED","TOO_MANY","feed_bytes","byte_came","first_byte_came","frame_byte_came","MOST_AT_ONCE","NONE_THERE","TOO_LONG","room_for","take_bytes","next_event","header_told","data_told","Desk","call_begin","call_feed","call_take","call_event","call_header","call_data","call_answer","call_send","call_reset","call_away","BY_CALL"]:List String).map PySem.Str.ofString
abbrev p0:Program:=PySem.Challenge.pw_manyonline_s01_answers
theorem w1:sreFenced p0.main=true:=by kernel_rfl
theorem w2:((moduleNames p0.main.body).isEmpty||lookedIntoSs (moduleNames p0.main.body) p0.main.body)=true:=by kernel_rfl
theorem w3:namesResolve p0=true:=by kernel_rfl
theorem w4:p0.boundNames.all (λn=>!worldNames.contains n)=true:=by kernel_rfl
theorem w5:(["vars","dir","locals"]:List PySem.Str).filter (readsOut p0 p0.main.body)=[]:=by kernel_rfl
theorem w6:noRoadLSs {strict:=!(importedModules p0.main.body).all cThrough.contains,foot:=none,bare:=[]} p0.main.body=true:=by kernel_rfl
theorem w7:(namesMeet p0 p0.main.body λ_ n=>attrL n)=true:=by kernel_rfl
theorem w8:p0.tablesWhole=true:=by kernel_rfl
theorem said:PySem.Challenge.rw_manyonline_s01_answers.wellSaid=true:=by
 have a1:looksOpen p0=true:=by
  unfold looksOpen
  rw[w1,w2,w3,w4,w5,w6,w7]
  rfl
 have a2:p0.boundNames.contains (PySem.Str.ofString "answers")=true:=by kernel_rfl
 have a3:specDef p0 (PySem.Str.ofString "answers") 1=true:=by kernel_rfl
 show (looksOpen p0&&p0.boundNames.contains (PySem.Str.ofString "answers")&&!startupNames.contains (PySem.Str.ofString "answers")&&specDef p0 (PySem.Str.ofString "answers") 1&&_&&_)=true
 rw[a1,a2,a3]
 decide +kernel
theorem bare0:p0.bare:=⟨rfl,rfl,rfl,rfl,rfl,w8⟩
def av:Stmt:=p0.main.body.getD 189 (.Pass ⟨0,0,0,0⟩)
def dv:DefRec:=match av with
 |.FunctionDef n a b _ _ _ sc _ _ p=>⟨n,a,b,sc,p⟩
 |_=>⟨"",{posonlyargs:=[],args:=[],vararg:=none,kwonlyargs:=[],kw_defaults:=[],kwarg:=none,defaults:=[]},[],{kind:=.function,names:=[],isGenerator:=false,isCoroutine:=false},⟨0,0,0,0⟩⟩
structure _root_.PySem.W.Fast where
 (tw12825029846960694581 tw7504468633642515912 tw11702186411878879352 tw13242520068851271182 tw4185806632877741005 tw7926554517016341649 tw9068940734294636171 tw5822574098544339061 tw13268757890552613830 tw6188268548820460265 tw14532877034669273778 tw12848468112695915237 tw1376968197227615999 tw8113132507802696232 tw1880865604627160980 tw15957223418734113665 tw12186905668207351339 tw6780123529437187480 tw505263198012017503 tw9889088588564220005 tw12761524754379407191 tw13539655487814548886 tw10375074404902557664 tw15511909322756800223 tw10448646687832436692 tw980722105000820535 tw13649351992183795543 tw226088477044661671 tw4295765260770052668 tw10627813340602400982 tw3140479714131726210 tw9872757480228615649 tw13362648275691908119 tw12248715655695123526 tw7257468711941907680 tw2156807842135621535 tw10601987872585595276 tw13720364699885495160 tw14680406438491643885 tw12499515333412349097 tw13633632914486777187 tw16965091789794372457 tw5641413525505900163 tw18333667677281527626 tw12186939321184065567 tw620363184726028829 tw3711744531193764830 tw9706560568244297852 tw3060660536338488303 tw853833161625814451 tw3877423927166708715 tw9249650124484185132 tw3548966541188009433 tw6081083513446098452 tw17409373514078551452 tw14574001725638007632 tw12151658667707368841 tw16250821758402096007 tw13097823687747118911 tw15683067466848508836 tw5678630860558993557 tw3104429161706012234 tw14493356083860715372 tw11516617004020518763 tw10923059353491951698 tw4356707149596676084 tw13545579313737844849 tw15143198748853120809 tw14179613297721917823 tw7920059095185206362 tw13575615885397660547 tw1919470600239651246 tw3284994674320832763 tw16010390313267340674 tw16309431627641145865 tw201517083365274450 tw9164775936772008765 tw11361679431928983989 tw4405689224189331156 tw8391118915530158620 tw16111556539987672725 tw5490972279392062956 tw4378897246210409622 tw1842176709798846803 tw6541813331024218432 tw6295083870407954134 tw8136710611382572370 tw17101152699254103158 tw7156227594277352851 tw342267633663730977 tw14853134531305600414 tw16930652167184625610 tw7253942378562073805 tw2138413568180804614 tw10622381799438801126 tw17478389537205385966 tw5384926044258610192 tw15282267526135029060 tw14520256468498974997 tw4978955847820476591 tw17994321290186058152 tw11148455537586942250 tw9638217271855037076 tw11085567537806416305 tw14553347695606497207 tw8964715055357187051 tw8246001773919233078 tw7729057518211351445 tw164940732324062489 tw13899031633448586440 tw6067466530984207958 tw15187470572568023549 tw13472024480588652131 tw10779757427101538714 tw17292224993979570563 tw11814668638491248153 tw5488101904804822718 tw461776432452224072 tw16195334408939173491 tw11719435562619189946 tw18322652737481975423 tw3109494269112797731 tw8148108649835043596 tw17667928232365508171 tw4596197780891932616 tw11595044402305178274 tw16711795615666074788 tw8434576997085981079 tw7735385384693972953 tw9858948374507851218 tw13822111054180126066 tw17198088539903881047 tw2612157914837288333 tw11637481358193363584 tw16512640916117447211 tw4246734507567835044 tw9445775877471074249 tw1371968017607819773 tw8224307149643100400 tw11302708488438666989 tw11896969979561571435 tw18392065168079396202 tw4101859703950165620 tw17632741601322349509 tw10395976211044950660 tw9959422968903834129 tw3930180749846925323 tw3706577777626953391 tw3066175638788324759 tw9261271340757936154 tw8317892155257293985 tw14595389534477269590 tw11698918381063016881 tw15433004339394852346 tw8849408143160600009 tw14367857976431608985 tw9891485223728494279 tw17611543350803197246 tw3224435200037678930 tw16448957342855927666 tw6279638728140875016 tw15360796526220929965 tw1901376140743150229 tw2138005280060513733 tw7361629343603501180 tw6125432147952268320 tw6415482932390988654 tw16996775099257355759 tw10135367325486307038 tw9853341461939293631 tw7918880614691082141 tw13195988072482693122 tw9305294821059933259 tw17305182664982830591 tw11164601910952971117 tw15798208256124078996 tw17455497319557531075 tw7849383427642356856 tw14501067570269812272 tw5566714548250039819 tw4285892180051359306 tw9270890054613451160 tw10135118723210246652 tw16457579375659922341 tw17529478165415702205 tw10907325501926385160 tw13319674247152471820 tw12169024509699932695 tw10159299487083317094 tw9816884183718138732 tw10730341514121267615 tw15840268382331942517 tw4487892020770677958 tw31960309373461852 tw11703206135747000267 tw16422514977931711268 tw9791354841078263909 tw4495310864641846975 tw4786631762727980994 tw9711675382387692024 tw3943259421646997028 tw5663958647264309489 tw10708786501620171872 tw15956495309120210868 tw6950139401357053535 tw14815537660503517621 tw5051118753275648118 tw11000090011757646804 tw2383161318741035442 tw17542196825873605374 tw494674783356882734 tw1017227943897401870 tw5932788881537157101 tw16993308638051659560 tw9422455954734558 tw4673573729156205711 tw7249136864974533737 tw14728454681167175103 tw15359271304126004747 tw12991426511544302920 tw8888207756537273012 tw1786241227188991785 tw1460822538827489558 tw7978229509773354310 tw536206771228816760 tw14704535762288858728 tw7281143390422068619 tw7447014618774586567 tw15001589470086859922 tw11354042620737143938 tw3248444942173595996 tw17102578292251486190 tw6334575160547515478 tw14346569682380017093 tw9253675473050774539 tw12809008350349508198 tw16264821051374975962 tw1203176564440652539 tw16200134588879358164 tw10792685074207659682:True)
section
local macro_rules
 |`(tactic| refine $h:ident $a*)=>do
  unless h.getId.eraseMacroScopes==`PySem.W.holds_os do Lean.Macro.throwUnsupported
  `(tactic| refine holds_os (q:=qv) (loose:=lsv) (Xt:=λs=>xlAt qv [] s&&recOk [] s) (XP:=XL qv []) $(a[4]!) $(a[5]!) $(a[6]!) (d:=dv) (kwd:=[]) (N:=13400) $(a[8]!) $(a[9]!) $(a[10]!) $(a[11]!) $(a[12]!) (by kernel_rfl) (by kernel_rfl) (by kernel_rfl) $(a[16]!) $(a[17]!) said (by decide +kernel) bare0 $(a[21]!) $(a[22]!))
local macro_rules|`(tactic| o_law)=>`(tactic| skip)
local macro_rules|`(tactic| k_head)=>`(tactic| k_headS)
local macro_rules|`(tactic| w_witness2)=>`(tactic| exact⟨[.list []],by decide +kernel,by decide +kernel⟩)
open_top hq for PySem.Challenge.rw_manyonline_s01_answers
end
end My
abbrev ak:= @List.mem_singleton
abbrev aq:= @decide_eq_false
abbrev az:= @decide_eq_true
abbrev aH:= @Nat.le_refl
abbrev aF:= @List.length_append
abbrev aC:= @List.length_map
abbrev aW:= @Bool.false_ne_true
abbrev bf:= @List.getElem?_eq_getElem
abbrev aY:= @List.length_take
abbrev bu:= @List.length_drop
abbrev bj:= @List.length_cons
abbrev bh:= @List.getElem?_eq_some_iff
abbrev aJ:= @List.mem_cons
abbrev bL:= @of_decide_eq_true
abbrev bJ:= @List.length_nil
abbrev bA:= @List.getElem?_map
abbrev cD:= @List.mem_of_getElem?
abbrev bZ:= @Nat.lt_of_lt_of_le
abbrev cG:= @Nat.le_trans
abbrev cJ:= @List.mem_cons_of_mem
abbrev cX:= @List.not_mem_nil
abbrev bY:= @List.mem_append_left
abbrev cF:= @List.mem_append_right
abbrev dm:= @List.map_append
abbrev bG:= @List.map_cons
abbrev bW:= @Nat.zero_le
abbrev eU:= @List.drop_eq_nil_of_le
abbrev gQ:= @List.getElem?_eq_none
abbrev bQ:= @Bool.and_eq_true
abbrev eQ:= @List.append_nil
abbrev iC:= @List.append_assoc
abbrev cu:= @Nat.ne_of_lt
abbrev bK:= @decide_eq_true_eq
abbrev gw:= @List.drop_drop
abbrev kJ:= @Nat.le_of_lt
abbrev bH:= @List.size_toArray
abbrev dY:= @List.mem_append
abbrev mD:= @List.nil_append
abbrev jU:= @List.cons_append
abbrev cI:= @Int.toNat_natCast
abbrev iQ:= @Nat.lt_of_le_of_lt
abbrev gA:= @Nat.lt_irrefl
abbrev lR:= @Nat.le_add_right
abbrev fL:= @List.mem_map
abbrev dZ:= @List.nodup_cons
abbrev je:= @beq_iff_eq
abbrev qY:= @List.toList_toArray
abbrev jf:= @PySem.Around.under_plainId
abbrev gF:= @Array.getElem?_eq_getElem
abbrev mz:= @Array.getElem?_eq_none
abbrev eF:= @Array.getElem?_toList
abbrev cW:= @Array.length_toList
abbrev ik:= @Bool.and_eq_true_iff
abbrev bR:= @Bool.eq_iff_iff
abbrev jd:= @Bool.false_and
abbrev mX:= @Bool.not_eq_true'
abbrev qy:= @Bool.or_eq_false_iff
abbrev oJ:= @Bool.or_eq_true
abbrev fK:= @Bool.true_and
abbrev iM:= @PySem.Calls.callWith_builtin
abbrev jh:= @PySem.Calls.evalArgs_plain
abbrev gJ:= @PySem.Calls.spliced_cons
abbrev gZ:= @PySem.Calls.spliced_nil
abbrev fM:= @PySem.Heap.SameBut.update
abbrev aL:= @PySem.Heap.get?_push_of_some
abbrev aV:= @PySem.Heap.get?_push_size
abbrev lY:= @PySem.Heap.get?_update_other
abbrev iZ:= @PySem.Heap.get?_update_self
abbrev aP:= @PySem.Heap.lt_size
abbrev bT:= @PySem.Heap.size_push
abbrev jK:= @List.all_cons
abbrev iT:= @List.all_eq_true
abbrev jL:= @List.any_cons
abbrev nQ:= @List.any_eq_true
abbrev jC:= @List.dropLast_concat_getLast
abbrev iy:= @List.drop_eq_getElem_cons
abbrev qz:= @List.drop_eq_nil_iff
abbrev lO:= @List.drop_length
abbrev lH:= @List.drop_zero
abbrev lJ:= @List.eq_nil_of_length_eq_zero
abbrev nU:= @List.filterMap_cons
abbrev lQ:= @List.filter_cons
abbrev gG:= @List.find?_cons
abbrev jV:= @List.findIdx?_eq_some_iff_getElem
abbrev pJ:= @List.flatMap_cons
abbrev jZ:= @List.getD_eq_getElem?_getD
abbrev iY:= @List.getElem?_cons_succ
abbrev km:= @List.getElem?_eq_none_iff
abbrev nW:= @List.getElem?_range
abbrev qC:= @List.getElem?_set_ne
abbrev oY:= @List.getElem?_set_self
abbrev nR:= @List.getElem_mem
abbrev gq:= @List.length_eq_zero_iff
abbrev qX:= @List.length_pos_iff
abbrev iD:= @List.length_range
abbrev mQ:= @List.length_singleton
abbrev jW:= @List.lookup_cons
abbrev nZ:= @List.map_congr_left
abbrev gH:= @List.map_map
abbrev lW:= @List.map_nil
abbrev ig:= @List.mem_cons_self
abbrev d9:= @List.mem_filterMap
abbrev jo:= @List.mem_iff_getElem?
abbrev kE:= @List.mem_or_eq_of_mem_set
abbrev pK:= @List.mem_range
abbrev kZ:= @List.nodup_append
abbrev sS:= @List.nodup_nil
abbrev kI:= @List.pairwise_iff_getElem
abbrev oZ:= @List.range_succ_eq_map
abbrev jq:= @List.sum_cons
abbrev gh:= @List.take_length
abbrev jO:= @List.take_of_length_le
abbrev ue:= @Nat.div_one
abbrev pQ:= @Nat.le_of_ble_eq_true
abbrev pL:= @Nat.le_of_succ_le
abbrev mY:= @Nat.le_succ
abbrev rK:= @Nat.lt_or_ge
abbrev jE:= @Nat.lt_succ_of_lt
abbrev jX:= @Nat.lt_succ_self
abbrev jr:= @Nat.min_le_right
abbrev pA:= @Nat.ne_of_gt
abbrev kO:= @Nat.not_lt_zero
abbrev rM:= @Nat.succ_pos
abbrev lq:= @PySem.Obj.data_mapFields
abbrev oK:= @Option.map_some
abbrev cz:= @Option.some.inj
abbrev lg:= @Option.some.injEq
abbrev gk:= @PySem.Paired.length
abbrev b8:= @PySem.PassesOwn.never
abbrev jM:= @PyProof.Rows.callWith_type1
abbrev bB:= @PySem.F.plainAttrs_list
abbrev pR:= @PySem.F.slot_dict_get
abbrev fQ:= @PySem.F.slot_list_append
abbrev oM:= @PySem.F.slot_list_count
abbrev fU:= @PySem.F.slot_list_extend
abbrev fV:= @PySem.F.type_list_append
abbrev fW:= @PySem.F.type_list_extend
abbrev oN:= @PySem.W.callWith_K
abbrev qZ:= @PySem.W.callWith_K0
abbrev n8:= @PySem.W.hideAll_get
abbrev pU:= @PySem.W.methodCall_KW
abbrev rn:= @PySem.W.plainGet_of
abbrev aO:= @PySem.boot_len
abbrev dq:= @PySem.mem_of_lookup
abbrev rA:= @UInt8.toNat_inj
abbrev jk:= @beq_eq_false_iff_ne
abbrev iI:= @PySem.codeAny_builtin
abbrev iR:= @PySem.codeAny_mono
abbrev j0:= @congrArg
abbrev gr:= @decide_eq_false_iff_not
abbrev jF:= @PySem.fits_of_scanBound
abbrev rB:= @if_true
abbrev jw:= @of_decide_eq_false
abbrev bw:= @PySem.sizeLine_eq
abbrev jA:= @PySem.tupleKind_room_in1
abbrev fZ:= @PySem.wpAny_Call_Name_kw
abbrev aj:= @PySem.wpAny_bind
abbrev jP:= @PySem.wpAny_call_entry
abbrev j8:= @PySem.wpAny_execs_nil
abbrev iG:= @PySem.wpAny_holding
abbrev dj:= @PySem.wpAny_mono
abbrev dJ:= @PySem.wpAny_newObj_type
abbrev iJ:= @PySem.wpAny_passesOwn
abbrev aA:= @PySem.wpAny_pure
abbrev lK:= @PySem.wpAny_pyIter_enum
abbrev jG:= @PySem.wpAny_pyIter_list
abbrev jb:= @PySem.wpAny_setState_of
abbrev eG:= @PySem.wpAny_truthy_bool
abbrev Rb:= Rc28.Bytes
abbrev Ra:= Rc28.Abs
abbrev Rt:= Rc28.Stream
abbrev Rh:= Rc28.Header
abbrev Rk:= Rc28.Block
abbrev Rv:= Rc28.Event
abbrev Fg:=PySem.W.Frag
variable{a b l C f d:PySem.Addr}{o:PySem.Obj}{u:PySem.Value}{P prog:PySem.Program}{w:PySem.World}{h base h':PySem.Heap}{t' i j n kk:Nat}{ch fp:List PySem.Addr}{N ps:List PySem.Str}{x:PySem.Str}{A:PySem.Around}{E Q:PySem.Value->PySem.Shared->Prop}{e c tg iter elt:PySem.Expr}{s s1:PySem.Shared}{aN:List (PySem.Addr×PySem.Obj)}{pos pos' p apos tpos:PySem.Pos}{K:Fg}{st:PySem.Stmt}{es ifs elts:List PySem.Expr}{lo:Int}{us its:List PySem.Value}{kw:List (PySem.Str×PySem.Value)}{env:PySem.Env}{mg:PySem.Str->Option PySem.Value}{fd:PySem.FuncData}{sc scope:PySem.Scope}{B:Prop}
namespace L2
open PySem PySem.Spec PyProof.Rows
abbrev xF:= Sum Int Str
def WL:xF->Value->Bool
 |.inl k,v=>Value.isInt k v
 |.inr x,v=>Value.isStrOf x v
def alG(w:World):xF->Int
 |.inl k=>hashInt k
 |.inr x=>hashStr w x
theorem pD:∀{k:xF}{v:Value},WL k v=true->(∃i t,k=Sum.inl i/\v=Value.int i t)\/(∃x t,k=Sum.inr x/\v=Value.str x t)
 |.inl i,v,h=>by
  obtain⟨t,e⟩:=Value.isInt_shape (k:=i) (v:=v) h;exact .inl ⟨i,t,rfl,e⟩
 |.inr x,v,h=>by
  obtain⟨t,e⟩:=Value.isStrOf_shape (x:=x) (v:=v) h;exact .inr ⟨x,t,rfl,e⟩
def aes(i:Int)(t:Tok):WL (.inl i) (.int i t)=true:=by simp[WL,Value.isInt]
def aet(x:Str)(t:Tok):WL (.inr x) (.str x t)=true:=by simp[WL,Value.isStrOf]
def ajf(a b:Int):decide ((Sum.inl a:xF)=Sum.inl b)=(a==b):=by
 by_cases e:a=b
 . subst e;simp
 . have h:¬(Sum.inl a:xF)=Sum.inl b:=λq=>e (Sum.inl.inj q);rw[aq h];exact(jk.mpr e).symm
def aji(a b:Str):decide ((Sum.inr a:xF)=Sum.inr b)=decide (a=b):=by
 by_cases e:a=b
 . subst e;simp
 . have h:¬(Sum.inr a:xF)=Sum.inr b:=λq=>e (Sum.inr.inj q);rw[aq h,aq e]
def ajg(a:Int)(b:Str):decide ((Sum.inl a:xF)=Sum.inr b)=false:=aq (λq=>nomatch q)
def ajh(a:Str)(b:Int):decide ((Sum.inr a:xF)=Sum.inl b)=false:=aq (λq=>nomatch q)
def m9(prog:Program)(w:World):PySem.KeyKind prog w xF where
 is:=WL
 hash:=alG w
 inj:=λv a b ha hb=>by
  rcases pD ha with⟨i,t,rfl,rfl⟩|⟨x,t,rfl,rfl⟩
  . rcases pD hb with⟨j,u,rfl,e⟩|⟨y,u,rfl,e⟩
    . injection e with e1 _;rw[e1]
    . exact nomatch e
  . rcases pD hb with⟨j,u,rfl,e⟩|⟨y,u,rfl,e⟩
    . exact nomatch e
    . injection e with e1 _;rw[e1]
 byValue:=λk v h=>by
  rcases pD h with⟨i,t,rfl,rfl⟩|⟨x,t,rfl,rfl⟩<;>rfl
 pyHash:=λhv h=>by
  rcases pD hv with⟨i,t,rfl,rfl⟩|⟨x,t,rfl,rfl⟩
  . exact wpAny_pyHash_int h
  . exact wpAny_pyHash_str h
 eqBool:=λhu hv h=>by
  rcases pD hu with⟨i,t,rfl,rfl⟩|⟨x,t,rfl,rfl⟩
  . rcases pD hv with⟨j,u,rfl,rfl⟩|⟨y,u,rfl,rfl⟩
    . rw[ajf]at h;exact wpAny_eqBool_int h
    . rw[ajg]at h;exact SeqAt.EqAt.int_str i t y u _ _ _ _ h
  . rcases pD hv with⟨j,u,rfl,rfl⟩|⟨y,u,rfl,rfl⟩
    . rw[ajh]at h;exact SeqAt.EqAt.str_int x t j u _ _ _ _ h
    . rw[aji]at h;exact wpAny_eqBool_str h
 «strs»:=λk x t v h=>by
  rcases pD h with⟨i,u,rfl,e⟩|⟨y,u,rfl,e⟩
  . exact nomatch e
  . injection e with e1 _;subst e1
    cases v<;>rfl
def aaR(prog:Program)(w:World)(i:Int)(t:Tok):(m9 prog w).is (.inl i) (.int i t)=true:=aes i t
def aaS(prog:Program)(w:World)(x:Str)(t:Tok):(m9 prog w).is (.inr x) (.str x t)=true:=aet x t
inductive V where
 |non|bl (b:Bool)|int (i:Int)|str (x:Str)|byt (b:Array UInt8)|flt (b:UInt64)|ref (a:Addr)|ty (n:String)
 deriving DecidableEq
def jt:V->Value->Prop
 |.non,u=>u=Value.none
 |.bl b,u=>u=Value.bool b
 |.int i,u=>∃t,u=Value.int i t
 |.str x,u=>∃t,u=Value.str x t
 |.byt b,u=>∃t,u=Value.bytes b t
 |.flt b,u=>∃t,u=Value.float b t
 |.ref a,u=>u=Value.ref a
 |.ty n,u=>u=Value.type n
abbrev ie:List V->List Value->Prop:=Paired jt
def ie.length{xs:List V}{us:List Value}(r:ie xs us):xs.length=us.length:=gk r
theorem ie.get:∀{xs:List V}{us:List Value}{i:Nat}{x:V},ie xs us->xs[i]? = some x->∃u,us[i]? = some u/\jt x u
 |_,_,_,_,.nil,e=>by simp at e
 |_,_,0,_,.cons r _,e=>by simp at e;subst e;exact⟨_,rfl,r⟩
 |_,_,i+1,x,.cons _ t,e=>by
  obtain⟨u,h1,h2⟩:=ie.get (i:=i) (x:=x) t (by simpa using e);exact⟨u,by simpa using h1,h2⟩
theorem ie.set{x:V}{u:Value}(r:jt x u):∀{xs:List V}{us:List Value}(i:Nat),ie xs us->ie (xs.set i x) (us.set i u)
 |_,_,_,.nil=>.nil
 |_,_,0,.cons _ t=>.cons r t
 |_,_,i+1,.cons q t=>.cons q (ie.set r i t)
theorem ie.append:∀{xs ys:List V}{us ws:List Value},ie xs us->ie ys ws->ie (xs++ys) (us++ws)
 |_,_,_,_,.nil,s=>s
 |_,_,_,_,.cons r t,s=>.cons r (ie.append t s)
theorem ie.take:∀{xs:List V}{us:List Value}(n:Nat),ie xs us->ie (xs.take n) (us.take n)
 |_,_,0,_=>.nil
 |_,_,_+1,.nil=>.nil
 |_,_,n+1,.cons r t=>.cons r (ie.take n t)
theorem ie.drop:∀{xs:List V}{us:List Value}(n:Nat),ie xs us->ie (xs.drop n) (us.drop n)
 |_,_,0,r=>r
 |_,_,_+1,.nil=>.nil
 |_,_,n+1,.cons _ t=>ie.drop n t
def DW:Option V->Option Value->Prop
 |some v,some u=>jt v u
 |none,none=>True
 |_,_=>False
def KV{κ:Type}:List (κ×V)->List (κ×Value)->Prop:=Paired λ(p:κ×V) (q:κ×Value)=>p.1=q.1/\jt p.2 q.2
def kV:xF->V
 |.inl i=>.int i
 |.inr x=>.str x
inductive HO where
 |cM (xs:List V)
 |tup (xs:List V)
 |dK (gK:List (xF×V))|dT (gK:List (List xF×V))
 |set (S:Int->Bool) (n:Nat)
 |ins (C dx:Addr) (fs:List (Str×V))
 |own (x:Addr)
 |xd (fs:List (Str×V))
 |met (f x:Addr)
 |rng (lo hi:Int)
 |frz (o:Obj) (u:HO)
 |tbl (ps:Array Value)
 |ext (φ:Heap->Prop)
abbrev Hp:= Addr->Option HO
def bM(H:Hp)(a:Addr)(o:HO):Hp:=λb=>if b=a then some o else H b
def aB{H:Hp}{o:HO}:bM H a o a=some o:=by unfold bM;rw[if_pos rfl]
def aM{H:Hp}{o:HO}(h:b≠a):bM H a o b=H b:=by unfold bM;rw[if_neg h]
def jc{H:Hp}{o u:HO}:bM (bM H a o) a u=bM H a u:=by
 funext b;unfold bM;split<;>rfl
def CT{H:Hp}{o u:HO}(h:H a=some o)(h':H b=some u)(d:o≠u):a≠b:=by
 intro e;subst e;rw[h]at h';exact d (cz h')
def aD{H:Hp}{o:HO}(h:H a=some o)(h':H b=none):a≠b:=by
 intro e;subst e;rw[h]at h';cases h'
section
variable(P:Program)(w:World)
def sG(H:Hp)(h:Heap)(a:Addr):HO->Prop
 |.cM xs=>xs.length<=sizeLine/\∃(its:List Value)(n:Nat),ie xs its/\h.get? a=some {cls:=.type "list",data:=.seq its.toArray n}
 |.tup xs=>xs.length<=sizeLine/\∃its:List Value,ie xs its/\IsTup h a its.toArray
 |.dK gK=>gK.length<=sizeLine/\(a==sysModules)=false/\∃vs,KV gK vs/\h.DictOf (m9 P w) a vs
 |.dT gK=>gK.length<=sizeLine/\(a==sysModules)=false/\∃xs:List (List xF×Addr×Value),
  Paired (λ(p:List xF×V) (q:List xF×Addr×Value)=>p.1=q.1/\H q.2.1=some (.tup (p.1.map kV))/\jt p.2 q.2.2) gK xs /\
  ∃o es ep,h.get? a=some o/\o.ExactDict/\o.data=.dict es ep/\es.toList=xs.map (entryOfKey (tupleKind (m9 P w)))/\(xs.map (·.1)).Nodup
 |.set S n=>h.SetOf (intKind P w) a S n
 |.ins C dx fs=>H dx=some (.own a)/\fs.length<=1000/\dx≠a/\h.get? a=some (PySem.W.instObj C dx) /\
  ∃mA,h.Ns1 dx mA/\(∀f,DW (fs.lookup f) (mA f))/\PySem.Within mA (fs.map (·.1))
 |.own _=>∃o,h.get? a=some o
 |.xd fs=>∃mA,h.Ns1 a mA/\∀f,DW (fs.lookup f) (mA f)
 |.rng lo hi=>∃t u v,h.get? a=some {cls:=.type "range",data:=.fields #[.int lo t,.int hi u,.int 1 v]}
 |.frz o u=>h.get? a=some o/\sG H h a u
 |.tbl ps=>h.get? a=some {cls:=.none,data:=.fields ps}
 |.met f x=>h.get? a=some (PySem.W.methodObj (.ref f) (.ref x))
 |.ext φ=>φ h/\(∃o,h.get? a=some o)/\∀h1 h2:Heap,φ h1->(∀o,h1.get? a=some o->h2.get? a=some o)->φ h2
def GK(H:Hp)(h:Heap):Prop:=∀a o,H a=some o->sG P w H h a o
end
section
variable{H H':Hp}{o:HO}
def sG.lt(x:sG P w H h a o):a<h.objs.size:=by
 cases o with
 |cM xs=>obtain⟨_,_,_,_,e⟩:=x;exact aP e
 |tup xs=>obtain⟨_,_,_,p⟩:=x;exact p.lt
 |dK gK=>obtain⟨_,_,_,_,o,_,_,e,_⟩:=x;exact aP e
 |dT gK=>obtain⟨_,_,_,_,o,_,_,e,_⟩:=x;exact aP e
 |set S n=>obtain⟨o,_,_,_,e,_⟩:=x;exact aP e
 |ins C dx fs=>obtain⟨_,_,_,e,_⟩:=x;exact aP e
 |own y=>obtain⟨_,e⟩:=x;exact aP e
 |xd fs=>obtain⟨_,⟨_,_,_,e,_⟩,_⟩:=x;exact aP e
 |rng lo hi=>obtain⟨_,_,_,e⟩:=x;exact aP e
 |frz ob u=>obtain⟨e,_⟩:=x;exact aP e
 |tbl ps=>exact aP (show h.get? a=some _ from x)
 |met f y=>exact aP (show h.get? a=some _ from x)
 |ext φ=>obtain⟨_,⟨_,e⟩,_⟩:=x;exact aP e
theorem Paired.ahu{α β:Type}{F G:α->β->Prop}:∀{l₁:List α}{l₂:List β},Paired F l₁ l₂->(∀a b,F a b->G a b)->Paired G l₁ l₂
 |_,_,.nil,_=>.nil
 |_,_,.cons r t,f=>.cons (f _ _ r) (Paired.ahu t f)
def sG.Rc(x:sG P w H h a o)(k:∀b u,(b=a\/H b=some (.own a))->h.get? b=some u->h'.get? b=some u)(ho:∀b,H b=some (.own a)->H' b=some (.own a))(ht:∀b xs,H b=some (.tup xs)->H' b=some (.tup xs)):sG P w H' h' a o:=by
 induction o with
 |cM xs=>obtain⟨z,its,n,r,e⟩:=x;exact⟨z,its,n,r,k _ _ (.inl rfl) e⟩
 |tup xs=>obtain⟨z,its,r,ob,e,c⟩:=x;exact⟨z,its,r,ob,k _ _ (.inl rfl) e,c⟩
 |dK gK=>obtain⟨z,y,vs,r,ob,es,ep,e,c⟩:=x;exact⟨z,y,vs,r,ob,es,ep,k _ _ (.inl rfl) e,c⟩
 |dT gK=>
  obtain⟨z,y,xs,r,ob,es,ep,e,c⟩:=x;exact⟨z,y,xs,Paired.ahu r λp q z=>⟨z.1,ht _ _ z.2.1,z.2.2⟩,ob,es,ep,k _ _ (.inl rfl) e,c⟩
 |set S n=>obtain⟨ob,es,ep,t,e,c⟩:=x;exact⟨ob,es,ep,t,k _ _ (.inl rfl) e,c⟩
 |ins C dx fs=>
  obtain⟨d,z,ne,e,mA,⟨od,es,ep,e2,c⟩,r⟩:=x;exact⟨ho _ d,z,ne,k _ _ (.inl rfl) e,mA,⟨od,es,ep,k _ _ (.inr d) e2,c⟩,r⟩
 |own y=>obtain⟨ob,e⟩:=x;exact⟨ob,k _ _ (.inl rfl) e⟩
 |xd fs=>obtain⟨mA,⟨od,es,ep,e,c⟩,r⟩:=x;exact⟨mA,⟨od,es,ep,k _ _ (.inl rfl) e,c⟩,r⟩
 |rng lo hi=>obtain⟨t,u,v,e⟩:=x;exact⟨t,u,v,k _ _ (.inl rfl) e⟩
 |frz ob u ih=>obtain⟨e,q⟩:=x;exact⟨k _ _ (.inl rfl) e,ih q⟩
 |tbl ps=>
  have e:h.get? a=some {cls:=.none,data:=.fields ps}:=x;show h'.get? a=some {cls:=.none,data:=.fields ps}
  exact k a _ (.inl rfl) e
 |met f y=>
  have e:h.get? a=some (PySem.W.methodObj (.ref f) (.ref y)):=x;show h'.get? a=some (PySem.W.methodObj (.ref f) (.ref y))
  exact k a _ (.inl rfl) e
 |ext φ=>obtain⟨p,⟨o,e⟩,st⟩:=x;exact⟨st _ _ p λo q=>k _ _ (.inl rfl) q,⟨o,k _ _ (.inl rfl) e⟩,st⟩
def GK.lt(x:GK P w H h)(e:H a=some o):a<h.objs.size:=(x a o e).lt
def GK.fresh(x:GK P w H h)(e:h.objs.size<=a):H a=none:=by
 cases q:H a with
 |none=>rfl
 |some u=>exact absurd (bZ (x.lt q) e) (gA _)
def GK.wK(x:GK P w H h)(k:∀b u,h.get? b=some u->h'.get? b=some u):GK P w H h':=λa o e=>
 (x a o e).Rc (λb u _ q=>k b u q) (λ_ q=>q) λ_ _ q=>q
def GK.laid(x:GK P w H h)(k:∀b u,h.get? b=some u->h'.get? b=some u)(hp:h.objs.size<=a)(new:sG P w (bM H a o) h' a o):GK P w (bM H a o) h':=λb u e=>by
 have hn:=x.fresh hp;by_cases hb:b=a
 . subst hb;rw[aB]at e;cases e;exact new
 . rw[aM hb]at e;exact(x b u e).Rc (λc v _ q=>k c v q) (λc q=>by rw[aM (aD q hn)];exact q) λc xs q=>by rw[aM (aD q hn)];exact q
end
def Rd(H:Hp)(a:Addr)(u:HO):Prop:=H a=some u\/∃o,H a=some (.frz o u)
def Rd.ok{H:Hp}{u:HO}(r:Rd H a u)(x:GK P w H h):sG P w H h a u:=by
 rcases r with r|⟨o,r⟩
 . exact x a u r
 . obtain⟨_,q⟩:=x a _ r;exact q
def Mut:Option HO->Prop
 |some (.cM _)=>True
 |some (.dK _)=>True
 |some (.dT _)=>True
 |some (.set _ _)=>True
 |some (.ins _ _ _)=>True
 |some (.ext _)=>True
 |_=>False
section
variable{H:Hp}{x e:Addr}{o':HO}
def GK.Nj(ok:GK P w H h)(mu:Mut (H x))(he:e=x\/H e=some (.own x))(k:∀b u,b≠e->h.get? b=some u->h'.get? b=some u)(heo:∃u,h'.get? e=some u)(new:sG P w (bM H x o') h' x o'):GK P w (bM H x o') h':=λb u q=>by
 have nown:∀c y,H c=some (.own y)->c≠x:=λc y r z=>by subst z;rw[r]at mu;exact mu
 have ntup:∀c xs,H c=some (.tup xs)->c≠x:=λc xs r z=>by subst z;rw[r]at mu;exact mu
 by_cases hb:b=x
 . subst hb;rw[aB]at q;cases q;exact new
 . rw[aM hb]at q;by_cases hbe:b=e
   . have q':H b=some (.own x):=by
      rcases he with z|z
      . exact absurd (hbe.trans z) hb
      . rw[hbe];exact z
     rw[q]at q';cases q';obtain⟨v,hv⟩:=heo;exact⟨v,by rw[hbe];exact hv⟩
   . refine(ok b u q).Rc (λc v hc r=>k c v ?_ r) (λc r=>by rw[aM (nown c b r)];exact r) λc xs r=>by rw[aM (ntup c xs r)];exact r
     rcases hc with rfl|hc
     . exact hbe
     . rintro rfl;rcases he with z|z
       . exact nown c b hc z
       . rw[hc]at z;cases z;exact hb rfl
end
structure Un(fs ex:List Addr)(H H':Hp)(h h':Heap):Prop where
 keep:∀b o,h.get? b=some o->H b=none->b∉fs->b∉ex->h'.get? b=some o
 slot:∀b o,h.get? b=some o->H b=none->b∈fs->b∉ex->∃sl,h'.get? b=some {o with slots:=sl}
 free:∀b o,h.get? b=some o->H b=none->b∉ex->H' b=none
 there:∀b o,h.get? b=some o->b∉ex->∃o',h'.get? b=some o'
 tups:∀b xs,H b=some (.tup xs)->H' b=some (.tup xs)
 Kr:∀b o u,H b=some (.frz o u)->H' b=some (.frz o u)
 Pg:∀b ps,H b=some (.tbl ps)->∃more,H' b=some (.tbl (ps++more))
section
variable{fs fs' ex ex':List Addr}{H H1 H2:Hp}{h1 h2:Heap}{x e:Addr}{o:HO}
def Un.any(u:Un fs ex H H1 h h1){ob:Obj}(q:h.get? b=some ob)(n:H b=none)(hx:b∉ex):∃sl,h1.get? b=some {ob with slots:=sl}:=by
 by_cases hb:b∈fs
 . exact u.slot b ob q n hb hx
 . exact⟨ob.slots,u.keep b ob q n hb hx⟩
def Un.wK(k:∀b u,h.get? b=some u->h'.get? b=some u):Un fs ex H H h h':=
 ⟨λb ob q _ _ _=>k b ob q,λb ob q _ _ _=>⟨ob.slots,k b ob q⟩,λ_ _ _ n _=>n,λb ob q _=>⟨ob,k b ob q⟩,λ_ _ q=>q,λ_ _ _ q=>q,λ_ ps q=>⟨#[],by rw[q];simp⟩⟩
def Un.refl:Un fs ex H H h h:=Un.wK λ_ _ q=>q
def Un.laid(k:∀b u,h.get? b=some u->h'.get? b=some u)(hp:h.objs.size<=a)(hn:H a=none):Un fs ex H (bM H a o) h h' where
 keep:=λb u q _ _ _=>k b u q
 slot:=λb u q _ _ _=>⟨u.slots,k b u q⟩
 free:=λb u q n _=>by rw[aM (cu (bZ (aP q) hp))];exact n
 there:=λb u q _=>⟨u,k b u q⟩
 tups:=λb xs q=>by rw[aM (aD q hn)];exact q
 Kr:=λb u xs q=>by rw[aM (aD q hn)];exact q
 Pg:=λb ps q=>⟨#[],by rw[aM (aD q hn),q];simp⟩
def Un.Nj(mu:Mut (H x))(he:e=x\/H e=some (.own x))(k:∀b u,b≠e->h.get? b=some u->h'.get? b=some u)(heo:∃u,h'.get? e=some u):Un fs ex H (bM H x o) h h':=by
 have hx:∀b,H b=none->b≠x:=λb n z=>by subst z;rw[n]at mu;exact mu
 have hb:∀b,H b=none->b≠e:=λb n z=>by
  subst z;rcases he with r|r
  . exact hx b n r
  . rw[n]at r;cases r
 have hm:∀b u,H b=some u->¬Mut (some u)->b≠x:=λb u q nm z=>by subst z;rw[q]at mu;exact nm mu
 refine⟨λb u q n _ _=>k b u (hb b n) q,λb u q n _ _=>⟨u.slots,k b u (hb b n) q⟩,λb u q n _=>by rw[aM (hx b n)];exact n,λb u q _=>?_,
  λb xs q=>by rw[aM (hm b _ q λz=>z)];exact q,λb u xs q=>by rw[aM (hm b _ q λz=>z)];exact q,λb ps q=>⟨#[],by rw[aM (hm b _ q λz=>z),q];simp⟩⟩
 by_cases hbe:b=e
 . subst hbe;exact heo
 . exact⟨u,k b u hbe q⟩
end
def trk(h:Heap)(H:Hp):List Addr:=(List.range h.objs.size).filter λa=>(H a).isSome
def Yo(h:Heap)(H:Hp):Heap:=PySem.W.hideAll h (trk h H)
def aem(h:Heap)(H:Hp):(Yo h H).objs.size=h.objs.size:=PySem.W.hideAll_size _ _
def afH{H:Hp}(e:h.get? b=some o)(n:H b=none):(Yo h H).get? b=some o:=
 n8 _ e λhm=>by
  have q:(H b).isSome=true:=(List.mem_filter.mp hm).2;rw[n]at q;simp at q
def ahz{H:Hp}(e:(Yo h H).get? b=some o):h.get? b=some o/\H b=none:=by
 have e':h.get? b=some o:=PySem.W.of_hideAll (trk h H) e;refine⟨e',?_⟩
 cases q:H b with
 |none=>rfl
 |some x=>
  have hm:b∈trk h H:=List.mem_filter.mpr ⟨pK.mpr (aP e'),by simp[q]⟩;have z:(Yo h H).get? b=none:=PySem.W.hideAll_none (trk h H) hm;rw[z]at e;cases e
def ag1(g h:Heap)(L:Addr):List (Addr×Obj):=(List.range h.objs.size).filterMap λa=>if a=L\/(g.get? a).isSome=true then none else (h.get? a).map λo=>(a,o)
def uT(g h:Heap)(L d:Addr):List (Addr×Obj):=(ag1 g h L).filter λp=>decide (p.1≠d)
end L2
variable{H H' H1:L2.Hp}{v y:L2.V}{xs vs:List L2.V}{gK:List (List L2.xF×L2.V)}
namespace L2
open PySem PySem.Spec PyProof.Rows
structure Mod(K:Fg)(mg:Str->Option Value)(base:Heap):Prop where
 kin:K.In base
 SJ:base.Ns mainGlobals mg
 blt:∃mb,base.Ns builtinsNs mb/\∀x:Str,x≠"__name__"->mb x=bootBuiltins x
 nolimit:base.NoLimit
structure Cx where
 prog:Program
 w:World
 K:Fg
 mg:Str->Option Value
 base:Heap
 A:Around
 N:List Str
 s₀:Shared
 H₀:Hp
 env:Env
 fO:List Env
 stack:List Env
 ex:List Addr
 fn:Str->Bool
 calm:Bool
 pn:List (Addr×Obj)
 xe:Value->Shared->Prop
def Nm(l:List Env):List Addr:=l.filterMap (·.frame)
abbrev Cx.fs(X:Cx):List Addr:=Nm X.fO
def Vis(sc:Scope)(x:Str):Prop:=sc.names.lookup x=some .local\/sc.names.lookup x=some .cell\/sc.names.lookup x=some .free
def Loc(sc:Scope)(x:Str):Prop:=sc.names.lookup x=some .local\/sc.names.lookup x=some .cell
def alv(env:Env)(h:Heap)(m:Str->Option Value)(x:Str)(u:Value):Prop:=
 (env.kindOf x=some .local/\m x=some u)\/((env.kindOf x=some .cell\/env.kindOf x=some .free)/\∃c,env.cells.lookup x=some c/\h.IsCell c (some u))
structure Cx.Ok(X:Cx):Prop where
 S8:Mod X.K X.mg X.base
 kind:X.env.scope.kind=.function
 SJ:X.env.globals=mainGlobals
 blt:X.env.builtins=builtinsNs
 above:X.s₀.heap.objs.size<=X.env.locals
 inj:∀x y c,X.env.cells.lookup x=some c->X.env.cells.lookup y=some c->x=y
 has:∀x,(X.env.kindOf x=some .cell\/X.env.kindOf x=some .free)->∃c,X.env.cells.lookup x=some c
 cab:∀x c,X.fn x=true->X.env.cells.lookup x=some c->X.s₀.heap.objs.size<=c
 hd:X.calm=true->X.A.handled=none
 frames:X.A.frames=some X.stack
 stk:X.stack=X.fO\/(X.stack=X.env::X.fO/\X.env.frame=some X.env.locals)
 exf:∀b∈X.ex,b≠X.env.locals/\∀x c,X.env.cells.lookup x=some c->c≠b
 bs:∀b o,X.base.get? b=some o->X.s₀.heap.get? b=some o/\X.H₀ b=none
 bsz:X.base.objs.size<=X.s₀.heap.objs.size
 acg:∀b o,X.base.get? b=some o->b∉X.ex
 aaH:∀b∈X.ex,b∉X.fs
 Ks:X.s₀.heap.FunFrames X.base X.fO
 frf:∀b∈X.fs,X.H₀ b=none
structure d8(X:Cx)(aN:List (Addr×Obj))(σ:List (Option V))(H:Hp)(s:Shared):Prop where
 ok:X.Ok
 os:s.os=X.s₀.os
 bare:AllBare s.gens
 base:Un X.fs X.ex X.H₀ H X.s₀.heap s.heap
 PL:∃m,s.heap.Ns X.env.locals m/\∀(i:Nat)(x:Str)(v:V),X.N[i]? = some x->σ[i]? = some (some v)->Vis X.env.scope x->∃u,jt v u/\alv X.env s.heap m x u
 cell:∀x c,X.env.cells.lookup x=some c->∃v,s.heap.IsCell c v
 free:H X.env.locals=none
 tD:∀x c,X.env.cells.lookup x=some c->H c=none
 Qc:∀p∈X.pn++aN,s.heap.get? p.1=some p.2/\H p.1=none/\p.1≠X.env.locals/\p.1∉X.fs/\∀v,p.2.data≠.cell v
 mC:GK X.prog X.w H s.heap
 len:σ.length=X.N.length
section
variable{X:Cx}{σ:List (Option V)}
def Cx.Ok.alK(ok:X.Ok)(e:X.base.get? b=some o):b∉X.fs:=λhb=>by
 have:=(ok.Ks.mem hb).1;rw[e]at this;cases this
def d8.bs(I:d8 X aN σ H s):∀b o,X.base.get? b=some o->s.heap.get? b=some o/\H b=none:=λb o e=>
 ⟨I.base.keep b o (I.ok.bs b o e).1 (I.ok.bs b o e).2 (I.ok.alK e) (I.ok.acg b o e),I.base.free b o (I.ok.bs b o e).1 (I.ok.bs b o e).2 (I.ok.acg b o e)⟩
def d8.bk(I:d8 X aN σ H s):∀b o,X.base.get? b=some o->s.heap.get? b=some o:=λb o e=>(I.bs b o e).1
def d8.S8(I:d8 X aN σ H s):Mod X.K X.mg X.base:=I.ok.S8
def d8.kIn(I:d8 X aN σ H s):X.K.In s.heap:=I.ok.S8.kin.keeps I.bk
def d8.nolimit(I:d8 X aN σ H s):s.heap.NoLimit:=I.ok.S8.nolimit.keeps I.bk
def d8.fr(I:d8 X aN σ H s):∃m,Fr X.base X.env.locals s.heap m:=
 let⟨m,hn,_⟩:=I.PL
 ⟨m,hn,I.bk,cG I.ok.bsz I.ok.above⟩
def d8.lt(I:d8 X aN σ H s):X.env.locals<s.heap.objs.size:=let⟨_,hn,_⟩:=I.PL;hn.lt
def d8.sz(I:d8 X aN σ H s):X.s₀.heap.objs.size<=s.heap.objs.size:=cG I.ok.above (kJ I.lt)
def d8.alL(I:d8 X aN σ H s)(h:s.heap.objs.size<=a):a∉X.fs:=λhb=>by
 obtain⟨_,o,ho,_⟩:=I.ok.Ks.mem hb;exact absurd (bZ (aP ho) (cG I.sz h)) (gA _)
def d8.cne(I:d8 X aN σ H s):∀x c,X.env.cells.lookup x=some c->c≠X.env.locals:=λx c e z=>by
 obtain⟨v,o,ho,hd⟩:=I.cell x c e;obtain⟨m,⟨o',es,ep,ho',hd',_⟩,_⟩:=I.PL;rw[z,ho']at ho;cases ho;rw[hd']at hd;cases hd
def d8.Ks(I:d8 X aN σ H s):s.heap.FunFrames X.base X.fO:=by
 have all:∀(l:List Env),(∀b∈Nm l,b∈X.fs)->X.s₀.heap.FunFrames X.base l->s.heap.FunFrames X.base l:=by
  intro l;induction l with
  |nil=>intro _ _;trivial
  |cons env r ih=>
   intro hs hl;obtain⟨hk,⟨L,o,hf,hn,ho,hd⟩,hr⟩:=hl;have hL:L∈X.fs:=hs L (by unfold Nm;rw[nU,hf];exact ig)
   obtain⟨sl,e⟩:=I.base.slot L o ho (I.ok.frf L hL) hL λz=>I.ok.aaH L z hL;exact⟨hk,⟨L,_,hf,hn,e,hd⟩,ih (λb hb=>hs b (by unfold Nm;rw[nU,hf];exact cJ _ hb)) hr⟩
 exact all X.fO (λ_ hb=>hb) I.ok.Ks
def d8.stack(I:d8 X aN σ H s):s.heap.FunFrames X.base X.stack:=by
 rcases I.ok.stk with e|⟨e,hf⟩
 . rw[e];exact I.Ks
 . rw[e];obtain⟨m,hn,_⟩:=I.PL;refine .cons (by rw[I.ok.kind];decide) hf hn ?_ I.Ks
   exact Heap.get?_none_of_le (cG I.ok.bsz I.ok.above)
def d8.acH(I:d8 X aN σ H s):∀b∈Nm X.stack,b∈X.env.locals::X.fs:=λb hb=>by
 rcases I.ok.stk with e|⟨e,hf⟩
 . rw[e]at hb;exact cJ _ hb
 . rw[e]at hb;unfold Nm at hb;rw[nU,hf]at hb;exact hb
def d8.ZD(I:d8 X aN σ H s):∀b∈Nm X.stack,H b=none:=λb hb=>by
 rcases aJ.mp (I.acH b hb) with e|hb
 . rw[e];exact I.free
 . obtain⟨_,o,ho,_⟩:=I.ok.Ks.mem hb;exact I.base.free b o ho (I.ok.frf b hb) λz=>I.ok.aaH b z hb
def d8.step{g':Array GenState}{t':Nat}{d':Drawn}(I:d8 X aN σ H s)(hch:∀b∈ch,(b∈X.ex\/X.s₀.heap.objs.size<=b)/\b≠X.env.locals/\(∀x c,X.env.cells.lookup x=some c->c≠b)/\∀p∈X.pn++aN,p.1≠b)(keep:∀b o,b≠X.env.locals->b∉X.fs->b∉ch->s.heap.get? b=some o->H b=none->h'.get? b=some o)(slot:∀b o,b≠X.env.locals->b∈X.fs->b∉ch->s.heap.get? b=some o->H b=none->∃sl,h'.get? b=some {o with slots:=sl})(free:∀b o,b∉ch->s.heap.get? b=some o->H b=none->H' b=none)(there:∀b o,b∉ch->s.heap.get? b=some o->∃o',h'.get? b=some o')(tups:∀b xs,H b=some (.tup xs)->H' b=some (.tup xs))(Kr:∀b o u,H b=some (.frz o u)->H' b=some (.frz o u))(Pg:∀b ps,H b=some (.tbl ps)->∃more,H' b=some (.tbl (ps++more)))(ns:∀m,s.heap.Ns X.env.locals m->h'.Ns X.env.locals m)(mC:GK X.prog X.w H' h')(hg:AllBare g'):
 d8 X aN σ H' {s with heap:=h',gens:=g',drawn:=d',toks:=t'}:=by
 have neL:∀b o,X.s₀.heap.get? b=some o->b≠X.env.locals:=λb o e=>cu (bZ (aP e) I.ok.above);have neC:∀b o,X.s₀.heap.get? b=some o->b∉X.ex->b∉ch:=λb o e hx hb=>by
  rcases (hch b hb).1 with z|z
  . exact hx z
  . exact absurd (bZ (aP e) z) (gA _)
 have cellK:∀x c,X.env.cells.lookup x=some c->∀v,s.heap.IsCell c v->h'.IsCell c v:=λx c e v ⟨o,ho,hd⟩=>by
  have nch:c∉ch:=λz=>(hch c z).2.2.1 x c e rfl;by_cases hc:c∈X.fs
  . obtain⟨sl,q⟩:=slot c o (I.cne x c e) hc nch ho (I.tD x c e);exact⟨_,q,hd⟩
  . exact⟨o,keep c o (I.cne x c e) hc nch ho (I.tD x c e),hd⟩
 refine⟨I.ok,I.os,hg,⟨λb o e n hb hx=>?_,λb o e n hb hx=>?_,λb o e n hx=>?_,λb o e hx=>?_,λb xs e=>tups b xs (I.base.tups b xs e),λb o xs e=>Kr b o xs (I.base.Kr b o xs e),λb ps e=>?_⟩,?_,λx c e=>?_,?_,λx c e=>?_,λp hp=>?_,mC,I.len⟩
 . exact keep b o (neL b o e) hb (neC b o e hx) (I.base.keep b o e n hb hx) (I.base.free b o e n hx)
 . obtain⟨sl,e1⟩:=I.base.slot b o e n hb hx;obtain⟨sl',e2⟩:=slot b _ (neL b o e) hb (neC b o e hx) e1 (I.base.free b o e n hx);exact⟨sl',e2⟩
 . obtain⟨o',e1⟩:=I.base.there b o e hx;exact free b o' (neC b o e hx) e1 (I.base.free b o e n hx)
 . obtain⟨o',e1⟩:=I.base.there b o e hx;exact there b o' (neC b o e hx) e1
 . obtain⟨m1,e1⟩:=I.base.Pg b ps e;obtain⟨m2,e2⟩:=Pg b _ e1;exact⟨m1++m2,by rw[e2,Array.append_assoc]⟩
 . obtain⟨m,hn,hl⟩:=I.PL;refine⟨m,ns m hn,λi x v e1 e2 e3=>?_⟩;obtain⟨u,r,l⟩:=hl i x v e1 e2 e3;refine⟨u,r,?_⟩;rcases l with l|⟨k,c,e,z⟩
   . exact .inl l
   . exact .inr ⟨k,c,e,cellK x c e _ z⟩
 . obtain⟨v,z⟩:=I.cell x c e;exact⟨v,cellK x c e v z⟩
 . obtain⟨m,⟨o,_,_,ho,_⟩,_⟩:=I.PL;exact free _ o (λz=>(hch _ z).2.1 rfl) ho I.free
 . obtain⟨v,o,ho,hd⟩:=I.cell x c e;exact free c o (λz=>(hch c z).2.2.1 x c e rfl) ho (I.tD x c e)
 . obtain⟨e,n,ne,nf,d⟩:=I.Qc p hp;have nch:p.1∉ch:=λz=>(hch p.1 z).2.2.2 p hp rfl;exact⟨keep p.1 p.2 ne nf nch e n,free p.1 p.2 nch e n,ne,nf,d⟩
def d8.un{t':Nat}(I:d8 X aN σ H s)(u:Un X.fs [] H H' s.heap h')(mC:GK X.prog X.w H' h'):d8 X aN σ H' {s with heap:=h',toks:=t'}:=by
 obtain⟨m,⟨o,es,ep,ho,r⟩,_⟩:=id I.PL;obtain⟨sl,hL⟩:=u.any ho I.free (by simp);exact I.step (g':=s.gens) (d':=s.drawn) (ch:=[]) (λ_ z=>nomatch z) (λb o _ hb _ e n=>u.keep b o e n hb (by simp)) (λb o _ hb _ e n=>u.slot b o e n hb (by simp)) (λb o _ e n=>u.free b o e n (by simp)) (λb o _ e=>u.there b o e (by simp)) u.tups u.Kr u.Pg (λm' hm=>by
  obtain⟨o',es',ep',ho',r'⟩:=hm;rw[ho]at ho';cases ho';exact⟨_,es',ep',hL,r'⟩) mC I.bare
def d8.call{g':Array GenState}{t':Nat}{d':Drawn}(I:d8 X aN σ H s)(u:Un (Nm X.stack) ch H H' s.heap h')(mC:GK X.prog X.w H' h')(hg:AllBare g')(hch:∀b∈ch,(b∈X.ex\/X.s₀.heap.objs.size<=b)/\b≠X.env.locals/\(∀x c,X.env.cells.lookup x=some c->c≠b)/\∀p∈X.pn++aN,p.1≠b):
 d8 X aN σ H' {s with heap:=h',gens:=g',drawn:=d',toks:=t'}:=by
 obtain⟨m,⟨o,es,ep,ho,r⟩,_⟩:=id I.PL;obtain⟨sl,hL⟩:=u.any ho I.free λz=>(hch _ z).2.1 rfl;exact I.step (ch:=ch) hch (λb o hL hb hc e n=>u.keep b o e n (λz=>(aJ.mp (I.acH b z)).elim hL hb) hc) (λb o _ _ hc e n=>u.any e n hc) (λb o hc e n=>u.free b o e n hc) (λb o hc e=>u.there b o e hc) u.tups u.Kr u.Pg (λm' hm=>by
  obtain⟨o',es',ep',ho',r'⟩:=hm;rw[ho]at ho';cases ho';exact⟨_,es',ep',hL,r'⟩) mC hg
def d8.ud{t':Nat}{it:Addr}(I:d8 X aN σ H s)(k:∀b o,b≠it->s.heap.get? b=some o->h'.get? b=some o)(hn:H it=none)(hL:it≠X.env.locals)(h1:it∈X.ex\/X.s₀.heap.objs.size<=it)(h2:∀x c,X.env.cells.lookup x=some c->c≠it)(h3:∀p∈X.pn++aN,p.1≠it):d8 X aN σ H {s with heap:=h',toks:=t'}:=by
 have nit:∀b u,H b=some u->b≠it:=λb u e z=>by rw[z,hn]at e;cases e
 refine I.step (g':=s.gens) (d':=s.drawn) (ch:=[it]) (λb hb=>?_) (λb o _ _ hc e _=>k b o (λz=>hc (by simp[z])) e) (λb o _ _ hc e _=>⟨o.slots,k b o (λz=>hc (by simp[z])) e⟩) (λ_ _ _ _ n=>n)
  (λb o hc e=>⟨o,k b o (λz=>hc (by simp[z])) e⟩) (λ_ _ e=>e) (λ_ _ _ e=>e) (λb ps e=>⟨#[],by rw[e];simp⟩) (λm hm=>?_) (λb u e=>?_) I.bare
 . have e:b=it:=by simpa using hb
   subst e;exact⟨h1,hL,h2,h3⟩
 . obtain⟨o,es,ep,ho,r⟩:=hm;exact⟨o,es,ep,k _ o (Ne.symm hL) ho,r⟩
 . refine(I.mC b u e).Rc (λc v hc q=>k c v ?_ q) (λ_ q=>q) λ_ _ q=>q;rcases hc with z|z
   . rw[z];exact nit b u e
   . exact nit c _ z
def d8.Dr(I:d8 X aN σ H s)(t:Nat):d8 X aN σ H {s with toks:=t}:=I.un (h':=s.heap) (t':=t) Un.refl I.mC
def d8.wK{t':Nat}(I:d8 X aN σ H s)(k:∀b u,s.heap.get? b=some u->h'.get? b=some u):d8 X aN σ H {s with heap:=h',toks:=t'}:=I.un (Un.wK k) (I.mC.wK k)
def d8.laid{a:Addr}{o:HO}{t':Nat}(I:d8 X aN σ H s)(k:∀b u,s.heap.get? b=some u->h'.get? b=some u)(hp:s.heap.objs.size<=a)(new:sG X.prog X.w (bM H a o) h' a o):
 d8 X aN σ (bM H a o) {s with heap:=h',toks:=t'}:=I.un (Un.laid k hp (I.mC.fresh hp)) (I.mC.laid k hp new)
def d8.Nj{x e:Addr}{o:HO}{t':Nat}(I:d8 X aN σ H s)(mu:Mut (H x))(he:e=x\/H e=some (.own x))(k:∀b u,b≠e->s.heap.get? b=some u->h'.get? b=some u)(heo:∃u,h'.get? e=some u)(new:sG X.prog X.w (bM H x o) h' x o):d8 X aN σ (bM H x o) {s with heap:=h',toks:=t'}:=I.un (Un.Nj mu he k heo) (I.mC.Nj mu he k heo new)
def d8.al8{σ':List (Option V)}(I:d8 X aN σ H s)(hl:σ'.length=σ.length)(w:∀(i:Nat) v,σ'[i]? = some (some v)->σ[i]? = some (some v)):d8 X aN σ' H s:=
 ⟨I.ok,I.os,I.bare,I.base,let⟨m,hn,hl'⟩:=I.PL;⟨m,hn,λi x v e1 e2 e3=>hl' i x v e1 (w i v e2) e3⟩,I.cell,I.free,I.tD,I.Qc,I.mC,hl.trans I.len⟩
def d8.ady{pins':List (Addr×Obj)}(I:d8 X aN σ H s)(h:∀p∈pins',s.heap.get? p.1=some p.2/\H p.1=none/\p.1≠X.env.locals/\p.1∉X.fs/\∀v,p.2.data≠.cell v):d8 X pins' σ H s:=
 ⟨I.ok,I.os,I.bare,I.base,I.PL,I.cell,I.free,I.tD,λp hp=>(dY.mp hp).elim (λz=>I.Qc p (bY _ z)) (h p),I.mC,I.len⟩
def Tf(hN:N.Nodup)(a:N[i]? = some x)(b:N[j]? = some x):i=j:=by
 obtain⟨h1,e1⟩:=bh.mp a;obtain⟨h2,e2⟩:=bh.mp b;exact(List.getElem_inj hN).mp (e1.trans e2.symm)
def W9{M:Model}{Q:Unit->Shared->Prop}(I:d8 X aN σ H s)(hN:X.N.Nodup)(hi:X.N[i]? = some x)(hx:Loc X.env.scope x)(r:jt v u)(h:∀s',d8 X aN (σ.set i (some v)) H s'->(∃a,Heap.SameBut a s.heap s'.heap/\(a=X.env.locals\/X.env.cells.lookup x=some a))->Q () s')(hf:X.fn x=true\/X.env.scope.names.lookup x=some .local:=by first|exact .inl rfl|exact .inr rfl|assumption):wpAny M A (storeName X.env x u) Q E s:=by
 obtain⟨m,hn,hl⟩:=id I.PL;have hcls:(X.env.scope.kind==.class||(X.env.scope.kind==.module&&X.env.locals != X.env.globals))=false:=by rw[I.ok.kind];rfl
 have hiσ:i<σ.length:=by rw[I.len];exact(bh.mp hi).1
 have cne:=I.cne;have tracked:∀{a:Addr}{h':Heap},(∃o,s.heap.get? a=some o/\H a=none)->Heap.SameBut a s.heap h'->GK X.prog X.w H h':=fun {a h'} ha hs b ob e=>by
  obtain⟨_,_,hfree⟩:=ha;refine(I.mC b ob e).Rc (λc w' hc q=>(hs.2 c ?_).trans q) (λ_ q=>q) λ_ _ q=>q;rintro rfl;rcases hc with rfl|hc
  . rw[hfree]at e;cases e
  . rw[hfree]at hc;cases hc
 rcases hx with hk|hk
 . refine wpAny_storeName_local hk hn (λh' hn' hs=>?_) hcls;obtain⟨oL,_,_,hoL,_⟩:=id hn;refine h _ ⟨I.ok,I.os,I.bare,⟨λb o e n hb hx=>?_,λb o e n hb hx=>?_,I.base.free,λb o e hx=>?_,I.base.tups,I.base.Kr,I.base.Pg⟩,⟨_,hn',λj y v' e1 e2 e3=>?_⟩,λy c e=>?_,I.free,I.tD,λp hp=>?_,tracked ⟨oL,hoL,I.free⟩ hs,by simpa using I.len⟩ ⟨_,hs,.inl rfl⟩
   . exact(hs.2 b (cu (bZ (aP e) I.ok.above))).trans (I.base.keep b o e n hb hx)
   . obtain⟨sl,e1⟩:=I.base.slot b o e n hb hx;exact⟨sl,(hs.2 b (cu (bZ (aP e) I.ok.above))).trans e1⟩
   . obtain⟨o',e1⟩:=I.base.there b o e hx;exact⟨o',(hs.2 b (cu (bZ (aP e) I.ok.above))).trans e1⟩
   . by_cases hj:j=i
     . subst hj;rw[hi]at e1;cases e1;rw[oY hiσ]at e2
       cases e2;exact⟨u,r,.inl ⟨hk,by simp⟩⟩
     . rw[qC (Ne.symm hj)]at e2;obtain⟨u',r',q⟩:=hl j y v' e1 e2 e3;refine⟨u',r',?_⟩;rcases q with⟨k,e⟩|⟨k,c,e,z⟩
       . refine .inl ⟨k,?_⟩;have:y≠x:=λe=>hj (Tf hN e1 (e▸hi));simp[this,e]
       . exact .inr ⟨k,c,e,z.sameBut hs (cne y c e)⟩
   . obtain⟨w',z⟩:=I.cell y c e;exact⟨w',z.sameBut hs (cne y c e)⟩
   . obtain⟨e,n,ne,nf,d⟩:=I.Qc p hp;exact⟨(hs.2 p.1 ne).trans e,n,ne,nf,d⟩
 . have hfn:X.fn x=true:=by
    rcases hf with z|z
    . exact z
    . rw[z]at hk;cases hk
   obtain⟨c,hc⟩:=I.ok.has x (.inl hk);obtain⟨w',z⟩:=I.cell x c hc;refine wpAny_storeName_cell I.ok.kind hk hc z (λh' hc' hs=>?_);obtain⟨oc,hoc,hocd⟩:=id z;refine h {s with heap:=h'} ⟨I.ok,I.os,I.bare,⟨λb o e n hb hx=>?_,λb o e n hb hx=>?_,I.base.free,λb o e hx=>?_,I.base.tups,I.base.Kr,I.base.Pg⟩,⟨m,hn.sameBut hs (Ne.symm (cne x c hc)),λj y v' e1 e2 e3=>?_⟩,λy c' e=>?_,I.free,I.tD,λp hp=>?_,tracked ⟨oc,hoc,I.tD x c hc⟩ hs,by simpa using I.len⟩ ⟨c,hs,.inr hc⟩
   . exact(hs.2 b (cu (bZ (aP e) (I.ok.cab x c hfn hc)))).trans (I.base.keep b o e n hb hx)
   . obtain⟨sl,e1⟩:=I.base.slot b o e n hb hx;exact⟨sl,(hs.2 b (cu (bZ (aP e) (I.ok.cab x c hfn hc)))).trans e1⟩
   . obtain⟨o',e1⟩:=I.base.there b o e hx;exact⟨o',(hs.2 b (cu (bZ (aP e) (I.ok.cab x c hfn hc)))).trans e1⟩
   . by_cases hj:j=i
     . subst hj;rw[hi]at e1;cases e1;rw[oY hiσ]at e2
       cases e2;exact⟨u,r,.inr ⟨.inl hk,c,hc,hc'⟩⟩
     . rw[qC (Ne.symm hj)]at e2;obtain⟨u',r',q⟩:=hl j y v' e1 e2 e3;refine⟨u',r',?_⟩;rcases q with q|⟨k,c',e,z'⟩
       . exact .inl q
       . refine .inr ⟨k,c',e,z'.sameBut hs ?_⟩;rintro rfl;exact hj (Tf hN e1 (I.ok.inj _ _ _ e hc▸hi))
   . by_cases hcc:c'=c
     . subst hcc;exact⟨_,hc'⟩
     . obtain⟨w2,z2⟩:=I.cell y c' e;exact⟨w2,z2.sameBut hs hcc⟩
   . obtain⟨e,n,ne,nf,d⟩:=I.Qc p hp;refine⟨(hs.2 p.1 ?_).trans e,n,ne,nf,d⟩;intro q;rw[q,hoc]at e;have q':oc=p.2:=cz e;exact d w' (by rw[<-q'];exact hocd)
def Ux{M:Model}{Q:Unit->Shared->Prop}(I:d8 X aN σ H s)(hN:X.N.Nodup)(hi:X.N[i]? = some x)(hx:Loc X.env.scope x)(r:jt v u)(h:∀s',d8 X aN (σ.set i (some v)) H s'->Q () s')(hf:X.fn x=true\/X.env.scope.names.lookup x=some .local:=by first|exact .inl rfl|exact .inr rfl|assumption):wpAny M A (storeName X.env x u) Q E s:=
 W9 I hN hi hx r (λs' I' _=>h s' I') hf
def d8.afg{s':Shared}(I:d8 X aN σ H s)(ho:s'.os=s.os)(u:Un (Nm X.stack) ch H H' s.heap s'.heap)(mC:GK X.prog X.w H' s'.heap)(hg:AllBare s'.gens)(hch:∀b∈ch,(b∈X.ex\/X.s₀.heap.objs.size<=b)/\b≠X.env.locals/\(∀x c,X.env.cells.lookup x=some c->c≠b)/\∀p∈X.pn++aN,p.1≠b):d8 X aN σ H' s':=by
 obtain⟨h',g',d',t',o'⟩:=s';have e:o'=s.os:=ho;subst e;exact I.call (g':=g') (t':=t') (d':=d') u mC hg hch
end
abbrev XK:= Value->Option Addr->Hp->Prop
abbrev St:= List (Option V)
abbrev VK:= V->Hp->Prop
abbrev TE:= St->Hp->VK->Prop
abbrev TT:= St->Hp->(Bool->Hp->Prop)->Prop
abbrev TA:= St->Hp->(List V->Hp->Prop)->Prop
structure Z4 where
 nx:St->Hp->Prop
 rt:VK
 bk:St->Hp->Prop:=λ_ _=>False
 ct:St->Hp->Prop:=λ_ _=>False
abbrev TS:= Z4->St->Hp->Prop
inductive EP(X:Cx)(aN:List (Addr×Obj))(σ:St)(Q:VK)(u:Value)(s':Shared):Prop
 |mk (v:_) (H':_) (_:d8 X aN σ H' s') (_:jt v u) (_:Q v H')
def TP(X:Cx)(aN:List (Addr×Obj))(σ:St)(Q:Bool->Hp->Prop)(b:Bool)(s':Shared):Prop:=∃H',d8 X aN σ H' s'/\Q b H'
inductive AP(X:Cx)(aN:List (Addr×Obj))(σ:St)(Q:List V->Hp->Prop)(us:List Value)(s':Shared):Prop
 |mk (vs:_) (H':_) (_:d8 X aN σ H' s') (_:ie vs us) (_:Q vs H')
def SP(X:Cx)(aN:List (Addr×Obj))(D:Z4)(f:Flow)(s':Shared):Prop:=
 match f with
 |.next=>∃σ' H',d8 X aN σ' H' s'/\D.nx σ' H'
 |.brk=>∃σ' H',d8 X aN σ' H' s'/\D.bk σ' H'
 |.cont=>∃σ' H',d8 X aN σ' H' s'/\D.ct σ' H'
 |.ret u=>∃v σ' H',d8 X aN σ' H' s'/\jt v u/\D.rt v H'
def PE(X:Cx)(e:Expr)(t:TE):Prop:=
 ∀(aN:List (Addr×Obj)) (s:Shared) (σ:St) (H:Hp) (Q:VK),d8 X aN σ H s->t σ H Q->wpAny (model X.prog X.w) X.A (eval e X.env) (EP X aN σ Q) X.xe s
def PT(X:Cx)(e:Expr)(t:TT):Prop:=
 ∀(aN:List (Addr×Obj)) (s:Shared) (σ:St) (H:Hp) (Q:Bool->Hp->Prop),d8 X aN σ H s->t σ H Q->wpAny (model X.prog X.w) X.A (isTrue e X.env (eval e X.env)) (TP X aN σ Q) X.xe s
def PW(X:Cx)(e:Expr)(t:TT):Prop:=
 ∀(whole:Sem Value) (aN:List (Addr×Obj)) (s:Shared) (σ:St) (H:Hp) (Q:Bool->Hp->Prop),d8 X aN σ H s->t σ H Q->wpAny (model X.prog X.w) X.A (isTrue e X.env whole) (TP X aN σ Q) X.xe s
def PW.pt{X:Cx}{t:TT}(h:PW X e t):PT X e t:=h _
def PA(X:Cx)(es:List Expr)(t:TA):Prop:=
 ∀(pos:Pos) (aN:List (Addr×Obj)) (s:Shared) (σ:St) (H:Hp) (Q:List V->Hp->Prop),d8 X aN σ H s->t σ H Q->wpAny (model X.prog X.w) X.A (spliced (backTo pos (starEach es X.env))) (AP X aN σ Q) X.xe s
def PS(X:Cx)(st:Stmt)(t:TS):Prop:=
 ∀(aN:List (Addr×Obj)) (s:Shared) (σ:St) (H:Hp) (D:Z4),d8 X aN σ H s->t D σ H->wpAny (model X.prog X.w) X.A (exec st X.env) (SP X aN D) X.xe s
def Z5(X:Cx)(st:List Stmt)(t:TS):Prop:=
 ∀(aN:List (Addr×Obj)) (s:Shared) (σ:St) (H:Hp) (D:Z4),d8 X aN σ H s->t D σ H->wpAny (model X.prog X.w) X.A (execs st X.env) (SP X aN D) X.xe s
def nO{α:Type}{t:Sem α}{Q Q':α->Shared->Prop}{M:Model}(h:wpAny M A t Q E s)(hQ:∀a s,Q a s->Q' a s):wpAny M A t Q' E s:=dj h hQ λ_ _ x=>x
end L2
variable{X:L2.Cx}{ta:L2.TA}{tb:L2.TS}{σ:L2.St}{te:L2.TE}{D:L2.Z4}{tt:L2.TT}
namespace L2
open PySem PySem.Spec PyProof.Rows
section
def bin{a b:Expr}{ta tb:TE}(ha:PE X a ta)(hb:PE X b tb){R:V->V->Hp->Prop}(I:d8 X aN σ H s)(h:ta σ H λx H1=>tb σ H1 λy H2=>R x y H2){α:Type}{Q:α->Shared->Prop}{f:Value->Value->Sem α}(hf:∀v u s2 x y H2,d8 X aN σ H2 s2->jt x v->jt y u->R x y H2->wpAny (model X.prog X.w) X.A (f v u) Q X.xe s2):
 wpAny (model X.prog X.w) X.A (eval a X.env) (λv s₁=>wpAny (model X.prog X.w) X.A (eval b X.env) (λu s₂=>wpAny (model X.prog X.w) X.A (f v u) Q X.xe s₂) X.xe s₁) X.xe s:=by
 refine nO (ha aN s σ H _ I h) λv s1 ⟨x,H1,I1,r1,q1⟩=>?_;refine nO (hb aN s1 σ H1 _ I1 q1) λu s2 ⟨y,H2,I2,r2,q2⟩=>?_;exact hf v u s2 x y H2 I2 r1 r2 q2
inductive ali(o:Option (Option V))(H:Hp)(Q:VK):Prop
 |mk (v:V) (_:o=some (some v)) (_:Q v H)
def iw(i:Nat):TE:=λσ H Q=>ali σ[i]? H Q
def tC(v:V):TE:=λ_ H Q=>Q v H
def ajx(hN:X.N[i]? = some x)(hv:Vis X.env.scope x)(hd:(x==("__debug__":Str))=false:=by decide)(hcd:(x==("__classdict__":Str))=false:=by decide):PE X (.Name x pos) (iw i):=by
 intro aN s σ H Q I h;obtain⟨v,e,h⟩:=h;obtain⟨m,hn,hl⟩:=I.PL;obtain⟨u,r,l⟩:=hl i x v hN e hv;have fin:EP X aN σ Q u s:=⟨v,H,I,r,h⟩;rcases l with⟨hk,hm⟩|⟨hk,c,hc,hcell⟩
 . exact wpAny_Name (wpAny_loadName_local I.ok.kind hk hn hm fin) hd
 . rcases hk with hk|hk
   . exact wpAny_Name (wpAny_loadName_cell I.ok.kind hk hc hcell fin) hd
   . exact wpAny_Name (wpAny_loadName_free I.ok.kind hk hc hcell fin hcd) hd
def bx{i j pos}:PE X (.Constant (.int i) j pos) (tC (.int i)):=λ_ _ _ H _ I h=>wpAny_Constant_int ⟨.int i,H,I.Dr _,⟨_,rfl⟩,h⟩
def qG{b j pos}:PE X (.Constant (.bool b) j pos) (tC (.bl b)):=λ_ _ _ H _ I h=>Constant_bool ⟨.bl b,H,I,rfl,h⟩
def yu{j pos}:PE X (.Constant .none j pos) (tC .non):=λ_ _ _ H _ I h=>Constant_none ⟨.non,H,I,rfl,h⟩
def K5{x j pos}:PE X (.Constant (.str x) j pos) (tC (.str x)):=λ_ _ _ H _ I h=>Calls.Constant_str ⟨.str x,H,I.Dr _,⟨_,rfl⟩,h⟩
def Gl(X:Cx)(x:Str):Prop:=X.env.kindOf x=some .globalImplicit
def Ed(I:d8 X aN σ H s)(hg:Gl X x)(hm:X.mg x=some u)(h:Q u s)(hd:(x==("__debug__":Str))=false:=by decide):wpAny (model X.prog X.w) X.A (eval (.Name x pos) X.env) Q E s:=
 Calls.Name_function_global I.ok.kind hg (Calls.loadGlobal_global (by rw[I.ok.SJ];exact I.S8.SJ.keeps I.bk) hm h) hd
def Kv(I:d8 X aN σ H s)(hg:Gl X x)(hm:X.mg x=none)(hv:bootBuiltins x=some u)(h:Q u s)(hn:x≠"__name__":=by decide)(hd:(x==("__debug__":Str))=false:=by decide):wpAny (model X.prog X.w) X.A (eval (.Name x pos) X.env) Q E s:=by
 obtain⟨mb,h1,h2⟩:=I.S8.blt;exact Calls.Name_function_global I.ok.kind hg (Calls.loadGlobal_builtin (by rw[I.ok.SJ];exact I.S8.SJ.keeps I.bk) hm (by rw[I.ok.blt];exact h1.keeps I.bk) ((h2 x hn).trans hv) h) hd
def ahK(hg:Gl X x)(hm:X.mg x=some u)(r:jt v u)(hd:(x==("__debug__":Str))=false:=by decide):PE X (.Name x pos) (tC v):=
 λ_ _ _ H _ I h=>Ed I hg hm ⟨v,H,I,r,h⟩ hd
variable{a b:Expr}{ta tb:TE}
def PC(X:Cx)(op:CmpOp)(a b:Expr)(t:TE):Prop:=
 ∀(aN:List (Addr×Obj)) (s:Shared) (σ:St) (H:Hp) (Q:VK),d8 X aN σ H s->t σ H Q ->
  wpAny (model X.prog X.w) X.A (eval a X.env) (λv s₁=>wpAny (model X.prog X.w) X.A (eval b X.env) (λu s₂=>wpAny (model X.prog X.w) X.A (compareOp op v u) (EP X aN σ Q) X.xe s₂) X.xe s₁) X.xe s
def afV(b:Expr){op:CmpOp}(h:op≠.In)(h2:op≠.NotIn):behindInMarks op b=false:=by
 have e1:(op==CmpOp.In)=false:=by cases op<;>first|rfl|exact absurd rfl h
 have e2:(op==CmpOp.NotIn)=false:=by cases op<;>first|rfl|exact absurd rfl h2
 cases b<;>simp[behindInMarks,e1,e2]
inductive BlP(x:V)(H:Hp)(Q:Bool->Hp->Prop):Prop
 |mk (k:Bool) (_:x=.bl k) (_:Q k H)
def tB(t:TE):TT:=λσ H Q=>t σ H λx H1=>BlP x H1 Q
def O3{op:CmpOp}{t:TE}(h:PC X op a b t)(h1:behindInMarks op b=false:=by first|exact afV _ (by decide) (by decide)|rfl):PT X (.Compare a [op] [b] pos) (tB t):=by
 intro aN s σ H Q I hw;refine wpAny_isTrue_Compare1 (nO (h aN s σ H _ I hw) λv s1 h1=>nO h1 λu s2 h2=>nO h2 λc s3 ⟨x,H1,I1,r1,q1⟩=>?_) h1;obtain⟨d,rfl,q⟩:=q1
 cases r1;exact eG ⟨H1,I1,q⟩
def iB{t:TE}(h:PE X e t)(he:∀whole,isTrue e X.env whole=(do let v <-whole;standAt e.pos;holding [v] (truthy v)):=by intro _;rfl):PT X e (tB t):=by
 intro aN s σ H Q I hw;refine isTrue_plain (nO (h aN s σ H _ I hw) λv s1 ⟨x,H1,I1,r1,q1⟩=>?_) (he _);obtain⟨d,rfl,q⟩:=q1
 cases r1;exact eG ⟨H1,I1,q⟩
variable{tA tB':TT}{uT:List Expr}
def ak2(t u:TT):TT:=λσ H Q=>t σ H λc H1=>if c=true then u σ H1 Q else Q false H1
def tOr(t u:TT):TT:=λσ H Q=>t σ H λc H1=>if c=true then Q true H1 else u σ H1 Q
def ak9(t:TT):TT:=λσ H Q=>t σ H λc H1=>Q (!c) H1
def Bs(ha:PT X a tA):PW X (.BoolOp .And [a] pos) tA:=by
 intro wh aN s σ H Q I h;refine isTrue_and (nO (ha aN s σ H Q I h) λc s1 e=>?_)
 cases c with
 |true=>exact isTrue_and_nil e
 |false=>exact e
def rZ(ha:PT X a tA):PW X (.BoolOp .Or [a] pos) tA:=by
 intro wh aN s σ H Q I h;refine isTrue_or (nO (ha aN s σ H Q I h) λc s1 e=>?_)
 cases c with
 |false=>exact isTrue_or_nil e
 |true=>exact e
def Hw(ha:PT X a tA)(hb:PW X (.BoolOp .And (b::uT) pos) tB'):PW X (.BoolOp .And (a::b::uT) pos) (ak2 tA tB'):=by
 intro wh aN s σ H Q I h;refine isTrue_and (nO (ha aN s σ H _ I h) λc s1 ⟨H1,I1,q1⟩=>?_)
 cases c with
 |true=>exact hb wh aN s1 σ H1 Q I1 q1
 |false=>exact⟨H1,I1,q1⟩
def uB(ha:PT X a tA)(hb:PW X (.BoolOp .Or (b::uT) pos) tB'):PW X (.BoolOp .Or (a::b::uT) pos) (tOr tA tB'):=by
 intro wh aN s σ H Q I h;refine isTrue_or (nO (ha aN s σ H _ I h) λc s1 ⟨H1,I1,q1⟩=>?_)
 cases c with
 |true=>exact⟨H1,I1,q1⟩
 |false=>exact hb wh aN s1 σ H1 Q I1 q1
def rY(ha:PT X a tA):PT X (.UnaryOp .Not a pos) (ak9 tA):=by
 intro aN s σ H Q I h;exact isTrue_not (ha aN s σ H (λc H1=>Q (!c) H1) I h)
def agG(ta tb:TE):TE:=λσ H Q=>ta σ H λx H1=>∃c,x=.bl c/\if c=true then tb σ H1 Q else Q (.bl false) H1
def ala(ta tb:TE):TE:=λσ H Q=>ta σ H λx H1=>∃c,x=.bl c/\if c=true then Q (.bl true) H1 else tb σ H1 Q
def aiA(ta:TE):TE:=λσ H Q=>ta σ H λx H1=>∃c,x=.bl c/\Q (.bl (!c)) H1
def yw{op}{t:TE}(h:PE X a t):PE X (.BoolOp op [a] pos) t:=λaN s σ H Q I hw=>BoolOp_one (h aN s σ H Q I hw)
def Eo(ha:PE X a ta)(hb:PE X (.BoolOp .And (b::uT) pos) tb):PE X (.BoolOp .And (a::b::uT) pos) (agG ta tb):=by
 intro aN s σ H Q I h;refine BoolOp_and (nO (ha aN s σ H _ I h) λv s1 ⟨x,H1,I1,r1,q1⟩=>?_);obtain⟨c,rfl,q1⟩:=q1
 cases r1;refine eG ?_
 cases c with
 |true=>exact hb aN s1 σ H1 Q I1 q1
 |false=>exact⟨.bl false,H1,I1,rfl,q1⟩
def adw(ha:PE X a ta)(hb:PE X (.BoolOp .Or (b::uT) pos) tb):PE X (.BoolOp .Or (a::b::uT) pos) (ala ta tb):=by
 intro aN s σ H Q I h;refine BoolOp_or (nO (ha aN s σ H _ I h) λv s1 ⟨x,H1,I1,r1,q1⟩=>?_);obtain⟨c,rfl,q1⟩:=q1
 cases r1;refine eG ?_
 cases c with
 |false=>exact hb aN s1 σ H1 Q I1 q1
 |true=>exact⟨.bl true,H1,I1,rfl,q1⟩
def af7(ha:PE X a ta):PE X (.UnaryOp .Not a pos) (aiA ta):=by
 intro aN s σ H Q I h;refine UnaryOp_ (nO (ha aN s σ H _ I h) λv s1 ⟨x,H1,I1,r1,q1⟩=>?_);obtain⟨c,rfl,q1⟩:=q1
 cases r1;exact not_of (eG ⟨.bl (!c),H1,I1,rfl,q1⟩)
def tIf(t:TT)(ta tb:TE):TE:=λσ H Q=>t σ H λc H1=>if c=true then ta σ H1 Q else tb σ H1 Q
def Dc(hc:PT X c tA)(ha:PE X a ta)(hb:PE X b tb):PE X (.IfExp c a b pos) (tIf tA ta tb):=by
 intro aN s σ H Q I h;refine wpAny_IfExp (nO (hc aN s σ H _ I h) λd s1 ⟨H1,I1,q1⟩=>?_)
 cases d with
 |true=>exact ha aN s1 σ H1 Q I1 q1
 |false=>exact hb aN s1 σ H1 Q I1 q1
end
def fH(K:Fg)(H:Hp)(a:Addr)(xs:List V):Prop:=
 Rd H a (.cM xs) \/
  ∃(o:Obj)(its:Array Value)(n:Nat),K.lookup a=some o/\o.cls=.type "list"/\o.dict=none/\o.data=.seq its n/\its.size<=sizeLine/\ie xs its.toList
def Bx(K:Fg)(H:Hp)(a:Addr)(xs:List V):Prop:=
 Rd H a (.tup xs) \/
  ∃(o:Obj)(its:Array Value)(n:Nat),K.lookup a=some o/\o.cls=.type "tuple"/\o.data=.seq its n/\its.size<=sizeLine/\ie xs its.toList
def alz:Value->Option V
 |.none=>some .non
 |.bool b=>some (.bl b)
 |.int i _=>some (.int i)
 |.str x _=>some (.str x)
 |.bytes b _=>some (.byt b)
 |.float b _=>some (.flt b)
 |.ref a=>some (.ref a)
 |.type n=>some (.ty n)
 |_=>none
def jt.abs{x:V}(r:jt x u):alz u=some x:=by
 cases x with
 |non=>cases r;rfl
 |bl _=>cases r;rfl
 |int _=>obtain⟨t,rfl⟩:=r;rfl
 |str _=>obtain⟨t,rfl⟩:=r;rfl
 |byt _=>obtain⟨t,rfl⟩:=r;rfl
 |flt _=>obtain⟨t,rfl⟩:=r;rfl
 |ref _=>cases r;rfl
 |ty _=>cases r;rfl
def jt.inj{x y:V}{u:Value}(r:jt x u)(q:jt y u):x=y:=cz (r.abs.symm.trans q.abs)
theorem ie.inj:∀{xs ys:List V}{us:List Value},ie xs us->ie ys us->xs=ys
 |_,_,_,.nil,.nil=>rfl
 |_,_,_,.cons r t,.cons r' t'=>by rw[r.inj r',ie.inj t t']
section
variable{ys:List V}
def fH.of(h:H a=some (.cM xs)):fH K H a xs:=.inl (.inl h)
def Bx.of(h:H a=some (.tup xs)):Bx K H a xs:=.inl (.inl h)
def d8.list(I:d8 X aN σ H s)(h:fH X.K H a xs):∃its:List Value,ie xs its/\PlainL s.heap a its.toArray/\xs.length<=sizeLine:=by
 rcases h with h|⟨o,its,n,hk,hc,hd,hs,hz,r⟩
 . obtain⟨z,its,n,r,e⟩:=h.ok I.mC;exact⟨its,r,⟨_,n,e,rfl,rfl,rfl⟩,z⟩
 . refine⟨its.toList,r,⟨o,n,I.kIn a o hk,hc,hd,by simpa using hs⟩,?_⟩;have e:=r.length;simp only[cW]at e;omega
def d8.tuple(I:d8 X aN σ H s)(h:Bx X.K H a xs):∃its:List Value,ie xs its/\IsTup s.heap a its.toArray/\xs.length<=sizeLine:=by
 rcases h with h|⟨o,its,n,hk,hc,hs,hz,r⟩
 . obtain⟨z,its,r,p⟩:=h.ok I.mC;exact⟨its,r,p,z⟩
 . refine⟨its.toList,r,⟨o,I.kIn a o hk,hc,n,by simpa using hs⟩,?_⟩;have e:=r.length;simp only[cW]at e;omega
def d8.S7(I:d8 X aN σ H s)(h:fH X.K H a xs)(h':fH X.K H a ys):xs=ys:=by
 obtain⟨its,r,⟨o,n,e,_,_,d⟩,_⟩:=I.list h;obtain⟨its',r',⟨o',n',e',_,_,d'⟩,_⟩:=I.list h';rw[e]at e';cases e';rw[d]at d';injection d' with d1 _;have:its=its':=by simpa using j0 Array.toList d1
 subst this;exact r.inj r'
def d8.aeQ(I:d8 X aN σ H s)(h:Bx X.K H a xs)(h':Bx X.K H a ys):xs=ys:=by
 obtain⟨its,r,⟨o,e,_,n,d⟩,_⟩:=I.tuple h;obtain⟨its',r',⟨o',e',_,n',d'⟩,_⟩:=I.tuple h';rw[e]at e';cases e';rw[d]at d';injection d' with d1 _;have:its=its':=by simpa using j0 Array.toList d1
 subst this;exact r.inj r'
end
abbrev Cx.Rf(X:Cx)(E:Value->Shared->Prop):Cx:={X with xe:=E}
abbrev Cx.nox(X:Cx):Cx:=X.Rf λ_ _=>False
def Cx.Ok.Rf{X:Cx}(ok:X.Ok)(E:Value->Shared->Prop):(X.Rf E).Ok:=
 ⟨ok.S8,ok.kind,ok.SJ,ok.blt,ok.above,ok.inj,ok.has,ok.cab,ok.hd,ok.frames,ok.stk,ok.exf,ok.bs,ok.bsz,ok.acg,ok.aaH,ok.Ks,ok.frf⟩
def Cx.Ok.Cw(ok:(X.Rf E).Ok):X.Ok:=
 ⟨ok.S8,ok.kind,ok.SJ,ok.blt,ok.above,ok.inj,ok.has,ok.cab,ok.hd,ok.frames,ok.stk,ok.exf,ok.bs,ok.bsz,ok.acg,ok.aaH,ok.Ks,ok.frf⟩
def d8.Rf(I:d8 X aN σ H s)(E:Value->Shared->Prop):d8 (X.Rf E) aN σ H s:=⟨I.ok.Rf E,I.os,I.bare,I.base,I.PL,I.cell,I.free,I.tD,I.Qc,I.mC,I.len⟩
def d8.Cw(I:d8 (X.Rf E) aN σ H s):d8 X aN σ H s:=⟨I.ok.Cw,I.os,I.bare,I.base,I.PL,I.cell,I.free,I.tD,I.Qc,I.mC,I.len⟩
def SP.Cw{D:Z4}{f:Flow}{s':Shared}(h:SP (X.Rf E) aN D f s'):SP X aN D f s':=by
 cases f with
 |next=>obtain⟨σ',H',I,q⟩:=h;exact⟨σ',H',I.Cw,q⟩
 |brk=>obtain⟨σ',H',I,q⟩:=h;exact⟨σ',H',I.Cw,q⟩
 |cont=>obtain⟨σ',H',I,q⟩:=h;exact⟨σ',H',I.Cw,q⟩
 |ret u=>obtain⟨v,σ',H',I,r,q⟩:=h;exact⟨v,σ',H',I.Cw,r,q⟩
def PE.nox{t:TE}(h:PE X.nox e t):PE X e t:=λaN s σ H Q I hw=>
 dj (h aN s σ H Q (I.Rf _) hw) (λ_ _ ⟨v,H',I',r,q⟩=>⟨v,H',I'.Cw,r,q⟩) λ_ _ z=>False.elim z
def PT.nox{t:TT}(h:PT X.nox e t):PT X e t:=λaN s σ H Q I hw=>
 dj (h aN s σ H Q (I.Rf _) hw) (λ_ _ ⟨H',I',q⟩=>⟨H',I'.Cw,q⟩) λ_ _ z=>False.elim z
def Z5.nox{st:List Stmt}{t:TS}(h:Z5 X.nox st t):Z5 X st t:=λaN s σ H D I hw=>
 dj (h aN s σ H D (I.Rf _) hw) (λ_ _ q=>q.Cw) λ_ _ z=>False.elim z
section
variable{uT:List Stmt}{t u:TS}
def J0:TS:=λD σ H=>D.nx σ H
def Dq(t u:TS):TS:=λD σ H=>t {D with nx:=u D} σ H
def bC:Z5 X [] J0:=λ_ _ σ H _ I h=>j8 ⟨σ,H,I,h⟩
def ao(h1:PS X st t)(h2:Z5 X uT u):Z5 X (st::uT) (Dq t u):=by
 intro aN s σ H D I h;refine wpAny_execs_cons (nO (h1 aN s σ H {D with nx:=u D} I h) λf s1 q=>?_)
 cases f with
 |next=>
  obtain⟨σ',H',I',q⟩:=q;exact h2 aN s1 σ' H' D I' q
 |ret v=>exact q
 |brk=>exact q
 |cont=>exact q
def aG(h1:PS X st t):Z5 X [st] t:=by
 intro aN s σ H D I h;refine wpAny_execs_cons (nO (h1 aN s σ H D I h) λf s1 q=>?_)
 cases f with
 |next=>exact j8 q
 |ret v=>exact q
 |brk=>exact q
 |cont=>exact q
def ajP:TS:=λD σ H=>D.bk σ H
def agb:PS X (.Break pos) ajP:=λ_ _ σ H _ I h=>wpAny_Break ⟨σ,H,I,h⟩
def d8.quiet(I:d8 X aN σ H s):interactive X.env=false:=by simp[interactive,I.ok.kind]
def yX(te:TE):TS:=λD σ H=>te σ H λ_ H1=>D.nx σ H1
def dz(he:PE X e te)(hs:swapsWith e none pos.line X.env=pure false:=by rfl):PS X (.Expr e pos) (yX te):=by
 intro aN s σ H D I h;exact wpAny_Expr_any (nO (he aN s σ H _ I h) λv s1 ⟨x,H1,I1,r1,q1⟩=>⟨σ,H1,I1,q1⟩) I.quiet hs
def Dn(te:TE):TS:=λD σ H=>te σ H D.rt
def aZ(he:PE X e te):PS X (.Return (some e) pos) (Dn te):=by
 intro aN s σ H D I h;exact wpAny_Return_some (nO (he aN s σ H _ I h) λv s1 ⟨x,H1,I1,r1,q1⟩=>⟨x,σ,H1,I1,r1,q1⟩)
def alb:TS:=λD _ H=>D.rt .non H
def ahS:PS X (.Return none pos) alb:=λ_ _ σ H _ I h=>wpAny_Return_none ⟨.non,σ,H,I,rfl,h⟩
def acJ(c:TT)(t u:TS):TS:=λD σ H=>c σ H λb H1=>if b=true then t D σ H1 else u D σ H1
def cV{a b:List Stmt}{tc:TT}(hc:PT X c tc)(ha:Z5 X a t)(hb:Z5 X b u):PS X (.If c a b pos) (acJ tc t u):=by
 intro aN s σ H D I h;refine wpAny_If (nO (hc aN s σ H _ I h) λd s1 ⟨H1,I1,q1⟩=>?_)
 cases d with
 |true=>exact ha aN s1 σ H1 D I1 q1
 |false=>exact hb aN s1 σ H1 D I1 q1
end
abbrev TG:= V->St->Hp->(St->Hp->Prop)->Prop
abbrev TGs:= List V->St->Hp->(St->Hp->Prop)->Prop
def PG(X:Cx)(target:Expr)(t:TG):Prop:=
 ∀(aN:List (Addr×Obj)) (s:Shared) (σ:St) (H:Hp) (v:V) (u:Value) (Q:St->Hp->Prop),d8 X aN σ H s->jt v u->t v σ H Q ->
  wpAny (model X.prog X.w) X.A (assign target X.env u) (λ_ s'=>∃σ' H',d8 X aN σ' H' s'/\Q σ' H') X.xe s
def PGs(X:Cx)(ts:List Expr)(t:TGs):Prop:=
 ∀(aN:List (Addr×Obj)) (s:Shared) (σ:St) (H:Hp) (vs:List V) (us:List Value) (Q:St->Hp->Prop),d8 X aN σ H s->ie vs us->t vs σ H Q ->
  wpAny (model X.prog X.w) X.A (assignInOrder ((assignEach ts X.env).map (·.2)) us) (λ_ s'=>∃σ' H',d8 X aN σ' H' s'/\Q σ' H') X.xe s
abbrev TIp:= V->V->Hp->VK->Prop
def PIp(X:Cx)(op:Operator)(t:TIp):Prop:=
 ∀(aN:List (Addr×Obj)) (s:Shared) (σ:St) (H:Hp) (x y:V) (v u:Value) (Q:VK),d8 X aN σ H s->jt x v->jt y u->t x y H Q ->
  wpAny (model X.prog X.w) X.A (inplaceOp op v u) (EP X aN σ Q) X.xe s
def Bp(i:Nat):TG:=λv σ H Q=>Q (σ.set i (some v)) H
def jY(hN:X.N.Nodup)(hi:X.N[i]? = some x)(hx:Loc X.env.scope x)(hf:X.fn x=true\/X.env.scope.names.lookup x=some .local:=by first|exact .inl rfl|exact .inr rfl|assumption):PG X (.Name x pos) (Bp i):=by
 intro aN s σ H v u Q I r h;exact wpAny_assign_Name (Ux I hN hi hx r (λs' I'=>⟨_,H,I',h⟩) hf)
def akz:TGs:=λvs σ H Q=>vs=[]/\Q σ H
inductive afD(t:TG)(u:TGs)(vs:List V)(σ:St)(H:Hp)(Q:St->Hp->Prop):Prop
 |mk (v:_) (r:_) (_:vs=v::r) (_:t v σ H λσ' H'=>u r σ' H' Q)
def Rw:PGs X [] akz:=by
 intro aN s σ H vs us Q I r h;obtain⟨e,h⟩:=h;subst e
 cases r;exact assignInOrder_nil ⟨σ,H,I,h⟩
def xV{t:TG}{u:TGs}(h1:PG X e t)(h2:PGs X es u)(hs:(assignEach (e::es) X.env).map (·.2)=assign e X.env::(assignEach es X.env).map (·.2):=by rfl):PGs X (e::es) (afD t u):=by
 intro aN s σ H vs us Q I r h;obtain⟨v,vr,e1,h⟩:=h;subst e1
 cases r with
 |cons r rr=>
  rw[hs];refine assignInOrder_cons (nO (h1 aN s σ H _ _ _ I r h) λ_ s1 ⟨σ1,H1,I1,q1⟩=>?_);exact h2 aN s1 σ1 H1 _ _ Q I1 rr q1
inductive akA(K:Fg)(n:Nat)(t:TGs)(v:V)(σ:St)(H:Hp)(Q:St->Hp->Prop):Prop
 |mk (a:_) (xs:_) (_:v=.ref a) (_:Bx K H a xs) (_:xs.length=n) (_:t xs σ H Q)
def Y6{k:Nat}{t:TGs}(hc:X.calm=true)(h:PGs X es t)(hn:(assignEach es X.env).length=n:=by rfl)(hst:(assignEach es X.env).findIdx? (·.1)=none:=by rfl):PG X (.Tuple es k pos) (akA X.K n t):=by
 intro aN s σ H v u Q I r hw;obtain⟨a,xs,e1,hq,hl,hw⟩:=hw;subst e1
 cases r;obtain⟨its,rv,ht,hz⟩:=I.tuple hq;refine assign_Tuple_tuple (I.ok.hd hc) ht (by simp[hn,<-hl,rv.length]) hst λh' hx=>?_;have I1:d8 X aN σ H {s with heap:=h'}:=I.wK (t':=s.toks) λb o e=>hx b o (cu (aP e)) e;exact h aN _ σ H xs _ Q I1 (by simpa using rv) hw
def agH(te:TE)(g:TG):TS:=λD σ H=>te σ H λx H1=>g x σ H1 D.nx
def cB(hN:X.N.Nodup)(hi:X.N[i]? = some x)(hx:Loc X.env.scope x)(he:PE X e te)(hs:swapsWith e (some (.Name x pos')) pos.line X.env=pure false:=by rfl)(hf:X.fn x=true\/X.env.scope.names.lookup x=some .local:=by first|exact .inl rfl|exact .inr rfl|assumption):
 PS X (.Assign [.Name x pos'] e pos) (agH te (Bp i)):=by
 intro aN s σ H D I h;refine wpAny_Assign_Name (nO (he aN s σ H _ I h) λv s1 ⟨y,H1,I1,r1,q1⟩=>?_) hs;exact Ux I1 hN hi hx r1 (λs2 I2=>⟨_,H1,I2,q1⟩) hf
def ajO(i:Nat)(te:TE)(ti:TIp):TS:=λD σ H=>ali σ[i]? H λx H0=>te σ H0 λy H1=>ti x y H1 λz H2=>D.nx (σ.set i (some z)) H2
def ajz{op:Operator}{ti:TIp}(hN:X.N.Nodup)(hi:X.N[i]? = some x)(hx:Loc X.env.scope x)(he:PE X e te)(ho:PIp X op ti)(hf:X.fn x=true\/X.env.scope.names.lookup x=some .local:=by first|exact .inl rfl|exact .inr rfl|assumption):
 PS X (.AugAssign (.Name x pos') op e pos) (ajO i te ti):=by
 intro aN s σ H D I h;obtain⟨v,e1,h⟩:=h;obtain⟨m,hn,hl⟩:=I.PL;have vis:Vis X.env.scope x:=by rcases hx with k|k;exact .inl k;exact .inr (.inl k)
 obtain⟨u,r,l⟩:=hl i x v hi e1 vis;refine wpAny_AugAssign_Name ?_;have go:wpAny (model X.prog X.w) X.A (eval e X.env) (λw s₂=>wpAny (model X.prog X.w) X.A (inplaceOp op u w) (λr s₃=>wpAny (model X.prog X.w) X.A (storeName X.env x r) (λ_=>SP X aN D .next) X.xe s₃) X.xe s₂) X.xe s:=by
  refine nO (he aN s σ H _ I h) λw s1 ⟨y,H1,I1,r1,q1⟩=>?_;refine nO (ho aN s1 σ H1 v y u w _ I1 r r1 q1) λz s2 ⟨zv,H2,I2,r2,q2⟩=>?_;exact Ux I2 hN hi hx r2 (λs3 I3=>⟨_,H2,I3,q2⟩) hf
 rcases l with⟨hk,hm⟩|⟨hk,c,hc,hcell⟩
 . exact wpAny_loadName_local I.ok.kind hk hn hm go
 . rcases hk with hk|hk
   . exact wpAny_loadName_cell I.ok.kind hk hc hcell go
   . rcases hx with k|k
     . have:X.env.scope.names.lookup x=some .free:=hk;rw[k]at this;cases this
     . have:X.env.scope.names.lookup x=some .free:=hk;rw[k]at this;cases this
def ajV(c:TT)(tb:TS):TS:=λD σ H=>∃W:Nat->St->Hp->Prop,(∃m,W m σ H)/\∀m σ H,W m σ H ->
 c σ H λb H1=>if b=true then ∃N:St->Hp->Prop,(∀σ' H',N σ' H'->∃m',m'<m/\W m' σ' H')/\tb {D with nx:=N,ct:=N,bk:=D.nx} σ H1 else D.nx σ H1
def De{body:List Stmt}{tc:TT}(hp:PassesOwn (model X.prog X.w) X.A X.env X.xe)(hc:PT X c tc)(hb:Z5 X body tb):PS X (.While c body [] pos) (ajV tc tb):=by
 intro aN s σ H D I h;obtain⟨W,⟨m0,w0⟩,turn⟩:=h;refine wpAny_While (codeAny_whileLoop (λn s'=>∃σ' H',d8 X aN σ' H' s'/\W n σ' H') ?_ m0 ⟨σ,H,I,w0⟩);rintro n s1 ⟨σ1,H1,I1,w1⟩;refine iJ hp (nO (hc aN s1 σ1 H1 _ I1 (turn n σ1 H1 w1)) λb s2 ⟨H2,I2,q2⟩=>?_)
 cases b with
 |true=>
  obtain⟨N,hN,q2⟩:=q2;rw[if_pos rfl];refine iJ hp (nO (hb aN s2 σ1 H2 _ I2 q2) λf s3 q3=>?_)
  cases f with
  |next=>
   obtain⟨σ3,H3,I3,n3⟩:=q3;obtain⟨m',hm,w3⟩:=hN σ3 H3 n3;exact⟨m',hm,σ3,H3,I3,w3⟩
  |cont=>
   obtain⟨σ3,H3,I3,n3⟩:=q3;obtain⟨m',hm,w3⟩:=hN σ3 H3 n3;exact⟨m',hm,σ3,H3,I3,w3⟩
  |brk=>exact q3
  |ret v=>exact q3
 |false=>
  rw[if_neg aW];exact j8 ⟨σ1,H2,I2,q2⟩
structure It where
 go:Nat->Hp->Prop
 yld:Nat->Hp->V->Hp->Prop
 Im:Nat->Hp->Prop
def RL(X:Cx)(aN:List (Addr×Obj))(H:Hp)(b:Addr):Prop:=
 H b=none/\b≠X.env.locals/\b∉X.fs/\(b∈X.ex\/X.s₀.heap.objs.size<=b)/\(∀x c,X.env.cells.lookup x=some c->c≠b)/\∀p∈X.pn++aN,p.1≠b
def d8.ab0(I:d8 X aN σ H s)(hb:s.heap.objs.size<=b)(hn:H' b=none):RL X aN H' b:=by
 refine⟨hn,pA (bZ I.lt hb),I.alL hb,.inr (cG I.sz hb),λx c e z=>?_,λp hp z=>?_⟩
 . obtain⟨v,q⟩:=I.cell x c e;exact absurd (bZ q.lt (by rw[z];exact hb)) (gA _)
 . exact absurd (bZ (aP (I.Qc p hp).1) (by rw[z];exact hb)) (gA _)
structure U9(P:Program)(w:World)(K:Fg)(tg:Expr)(J:It)(fp:List Addr)(it:Addr)(tn:Nat->Heap->Prop):Prop where
 mem:it∈fp
 obj:∀i h,tn i h->∀b∈fp,∃o,h.get? b=some o/\∀v,o.data≠.cell v
 keep:∀i h h',tn i h->(∀b∈fp,∀o,h.get? b=some o->h'.get? b=some o)->tn i h'
 item:∀(X:Cx),X.prog=P->X.w=w->X.K=K->X.calm=true->∀(i:Nat) (aN:List (Addr×Obj)) (s:Shared) (σ:St) (H:Hp) (E:Value->Shared->Prop),d8 X aN σ H s->(∀b∈fp,RL X aN H b)->tn i s.heap->J.go i H ->
  wpAny (model P w) X.A (pyNext (.ref it)) (λr s1=>∃u,r=some u /\
   wpAny (model P w) X.A (letOwnedTupleGo tg (.ref it) u) (λ_ s2=>∃x H',d8 X aN σ H' s2/\jt x u/\J.yld i H x H'/\tn (i+1) s2.heap/\∀b∈fp,H' b=none) E s1) E s
 done:∀(X:Cx),X.prog=P->X.w=w->X.K=K->X.calm=true->∀(i:Nat) (aN:List (Addr×Obj)) (s:Shared) (σ:St) (H:Hp) (E:Value->Shared->Prop),d8 X aN σ H s->(∀b∈fp,RL X aN H b)->tn i s.heap->J.Im i H ->
  wpAny (model P w) X.A (pyNext (.ref it)) (λr s1=>r=none/\d8 X aN σ H s1) E s
 self:∀(A:Around)(i:Nat)(s:Shared)(Q:Value->Shared->Prop)(E:Value->Shared->Prop),tn i s.heap->Q (.ref it) s->wpAny (model P w) A (pyIter (.ref it)) Q E s
abbrev TI:= St->Hp->(It->Hp->Prop)->Prop
inductive PIE(X:Cx)(aN:List (Addr×Obj))(σ:St)(tg:Expr)(R:It->Hp->Prop)(itv:Value)(s2:Shared):Prop
 |mk (it:Addr) (fp:List Addr) (tn:Nat->Heap->Prop) (J:It) (H':Hp) (_:itv=.ref it) (_:d8 X aN σ H' s2) (_:U9 X.prog X.w X.K tg J fp it tn) (_:tn 0 s2.heap) (_:(∀b∈fp,RL X aN H' b)) (_:R J H')
def PI(X:Cx)(tg iter:Expr)(wi:TI):Prop:=
 ∀(aN:List (Addr×Obj)) (s:Shared) (σ:St) (H:Hp) (R:It->Hp->Prop),d8 X aN σ H s->wi σ H R ->
  wpAny (model X.prog X.w) X.A (eval iter X.env) (λv s1=>wpAny (model X.prog X.w) X.A (pyIter v) (PIE X aN σ tg R) X.xe s1) X.xe s
def Wz{M:Model}{it:Addr}{n:String}{vs:Array Value}{Q:Unit->Shared->Prop}(ho:s.heap.get? it=some o)(hc:o.cls=.type n)(hd:o.data=.fields vs)(hn:["enumerate","zip","dict_itemiterator","dict_reverseitemiterator","odict_iterator","itertools.zip_longest","itertools.pairwise"].contains n=false)(hQ:Q () s):wpAny M A (letOwnedTupleGo tg (.ref it) u) Q E s:=by
 unfold letOwnedTupleGo
 cases tg<;>first
  |exact aA hQ
  |(cases u<;>first
     |exact aA hQ
     |(refine aj (wpAny_load ho ?_)
       rw[hc,hd];show wpAny M A (if (["enumerate","zip","dict_itemiterator","dict_reverseitemiterator","odict_iterator","itertools.zip_longest","itertools.pairwise"].contains n&&vs[0]?==some (rawInt _))=true then _ else _) Q E s
       rw[if_neg (by intro h;rw[hn,jd]at h;cases h)]
       exact aA hQ))
def Itl(K:Fg)(a:Addr):It:=
 ⟨λi H=>∃xs x,fH K H a xs/\xs[i]? = some x,λi H x H'=>H'=H/\∀xs,fH K H a xs->xs[i]? = some x,λi H=>∃xs,fH K H a xs/\xs.length<=i⟩
def Itt(K:Fg)(a:Addr):It:=
 ⟨λi H=>∃xs x,Bx K H a xs/\xs[i]? = some x,λi H x H'=>H'=H/\∀xs,Bx K H a xs->xs[i]? = some x,λi H=>∃xs,Bx K H a xs/\xs.length<=i⟩
def Itr(lo:Int)(n:Nat):It:=⟨λi _=>i<n,λi H x H'=>H'=H/\x=.int (lo+i),λi _=>n<=i⟩
def aeS(a it:Addr):U9 P w K tg (Itl K a) [it] it (λi h=>h.IsListIter it a i) where
 mem:=by simp
 obj:=λi h st b hb=>by
  have e:b=it:=by simpa using hb
  subst e;obtain⟨o,e,c,d⟩:=st;exact⟨o,e,λv z=>by rw[d]at z;cases z⟩
 keep:=λi h h' st k=>st.at λo e=>k it (by simp) o e
 item:=by
  intro X hP hw hK hc i aN s σ H E I hf st hg;subst hP hw hK;obtain⟨xs,x,hq,hx⟩:=hg;obtain⟨its,rv,p,hz⟩:=I.list hq;obtain⟨u,hu,ru⟩:=rv.get hx;obtain⟨f0,f1,f2,f3,f4,f5⟩:=hf it (by simp);refine wpAny_pyNext_list_item st p.isList (x:=u) (by simpa using hu) λh' st' sb=>?_;have I1:d8 X aN σ H {s with heap:=h'}:=I.ud (t':=s.toks) (λb o hb e=>(sb.2 b hb).trans e) f0 f1 f3 f4 f5;obtain⟨o,e,c,d⟩:=id st';exact⟨u,rfl,Wz (s:={s with heap:=h'}) e c d (by decide) ⟨x,H,I1,ru,⟨rfl,λys hy=>by rw[I.S7 hy hq];exact hx⟩,st',λb hb=>(hf b hb).1⟩⟩
 done:=by
  intro X hP hw hK hc i aN s σ H E I hf st hg;subst hP hw hK;obtain⟨xs,hq,hx⟩:=hg;obtain⟨its,rv,p,hz⟩:=I.list hq;obtain⟨f0,f1,f2,f3,f4,f5⟩:=hf it (by simp);have hl:=rv.length;exact wpAny_pyNext_list_end (I.ok.hd hc) st p.isList (by simp;omega) λh' eb=>⟨rfl,I.ud (t':=s.toks) (λb o hb e=>eb b o hb e) f0 f1 f3 f4 f5⟩
 self:=λ_ _ _ _ _ st h=>wpAny_pyIter_listiter st h
def acP(a it:Addr):U9 P w K tg (Itt K a) [it] it (λi h=>h.IsTupleIter it a i) where
 mem:=by simp
 obj:=λi h st b hb=>by
  have e:b=it:=by simpa using hb
  subst e;obtain⟨o,e,c,d⟩:=st;exact⟨o,e,λv z=>by rw[d]at z;cases z⟩
 keep:=λi h h' st k=>st.at λo e=>k it (by simp) o e
 item:=by
  intro X hP hw hK hc i aN s σ H E I hf st hg;subst hP hw hK;obtain⟨xs,x,hq,hx⟩:=hg;obtain⟨its,rv,p,hz⟩:=I.tuple hq;obtain⟨u,hu,ru⟩:=rv.get hx;obtain⟨f0,f1,f2,f3,f4,f5⟩:=hf it (by simp);refine wpAny_pyNext_tuple_item st (show s.heap.IsTuple a its.toArray from p) (x:=u) (by simpa using hu) λh' st' sb=>?_;have I1:d8 X aN σ H {s with heap:=h'}:=I.ud (t':=s.toks) (λb o hb e=>(sb.2 b hb).trans e) f0 f1 f3 f4 f5;obtain⟨o,e,c,d⟩:=id st';exact⟨u,rfl,Wz (s:={s with heap:=h'}) e c d (by decide) ⟨x,H,I1,ru,⟨rfl,λys hy=>by rw[I.aeQ hy hq];exact hx⟩,st',λb hb=>(hf b hb).1⟩⟩
 done:=by
  intro X hP hw hK hc i aN s σ H E I hf st hg;subst hP hw hK;obtain⟨xs,hq,hx⟩:=hg;obtain⟨its,rv,p,hz⟩:=I.tuple hq;obtain⟨f0,f1,f2,f3,f4,f5⟩:=hf it (by simp);have hl:=rv.length;exact wpAny_pyNext_tuple_end (I.ok.hd hc) st (show s.heap.IsTuple a its.toArray from p) (by simp;omega) λh' eb=>⟨rfl,I.ud (t':=s.toks) (λb o hb e=>eb b o hb e) f0 f1 f3 f4 f5⟩
 self:=λ_ _ _ _ _ st h=>wpAny_pyIter_tupleiter st h
def acO(it:Addr)(lo:Int)(n:Nat):U9 P w K tg (Itr lo n) [it] it (λi h=>IsRangeIter h it (lo+(i:Nat)*1) ((n:Int)-(i:Nat)) 1) where
 mem:=by simp
 obj:=λi h st b hb=>by
  have e:b=it:=by simpa using hb
  subst e;exact⟨_,st,λv z=>by
   have z':Data.fields _=Data.cell v:=z
   cases z'⟩
 keep:=λi h h' st k=>k it (by simp) _ st
 item:=by
  intro X hP hw hK hc i aN s σ H E I hf st hg;subst hP hw hK;obtain⟨f0,f1,f2,f3,f4,f5⟩:=hf it (by simp);have W:=Walks.range (prog:=X.prog) (w:=X.w) (I.ok.hd hc) it lo 1 n;refine W.item i s _ _ hg st λv h' tk hv st' kk=>?_;obtain⟨t,rfl⟩:=hv;have I1:d8 X aN σ H {s with heap:=h',toks:=tk}:=I.ud (λb o hb e=>kk b o (by simpa using hb) e) f0 f1 f3 f4 f5;refine⟨_,rfl,Wz (s:={s with heap:=h',toks:=tk}) (n:="range_iterator") st' rfl rfl (by decide) ⟨.int (lo+i),H,I1,⟨t,?_⟩,⟨rfl,rfl⟩,st',λb hb=>(hf b hb).1⟩⟩;rw[Int.mul_one]
 done:=by
  intro X hP hw hK hc i aN s σ H E I hf st hg;subst hP hw hK;obtain⟨f0,f1,f2,f3,f4,f5⟩:=hf it (by simp);exact wpAny_pyNext_range_end (I.ok.hd hc) st (by have:n<=i:=hg;omega) λh' eb=>⟨rfl,I.ud (t':=s.toks) (λb o hb e=>eb b o hb e) f0 f1 f3 f4 f5⟩
 self:=λ_ _ _ _ _ st h=>wpAny_pyIter_rangeiter st h
end L2
variable{g:L2.TG}
namespace L2
open PySem PySem.Spec PyProof.Rows
inductive ajQ(K:Fg)(R:It->Hp->Prop)(x:V)(H:Hp):Prop
 |mk (a:Addr) (_:x=.ref a) (_:∃xs,fH K H a xs) (_:R (Itl K a) H)
def akB(K:Fg)(tl:TE):TI:=λσ H R=>tl σ H (ajQ K R)
inductive alm(K:Fg)(R:It->Hp->Prop)(x:V)(H:Hp):Prop
 |mk (a:Addr) (_:x=.ref a) (_:∃xs,Bx K H a xs) (_:R (Itt K a) H)
def alF(K:Fg)(tl:TE):TI:=λσ H R=>tl σ H (alm K R)
def zp{l:Expr}{tl:TE}(hl:PE X l tl):PI X tg l (akB X.K tl):=by
 intro aN s σ H R I h;refine nO (hl aN s σ H _ I h) λv s1 ⟨x,H1,I1,r1,q1⟩=>?_;obtain⟨a,e,⟨xs,hq⟩,q⟩:=q1;subst e
 cases r1;obtain⟨its,rv,p,hz⟩:=I1.list hq;refine jG p.isList ?_;refine⟨s1.heap.objs.size,[s1.heap.objs.size],_,_,H1,rfl,I1.wK (t':=s1.toks) λb o e=>aL _ e,aeS a _,⟨_,aV _ rfl,rfl,rfl⟩,λb hb=>?_,q⟩;have e:b=s1.heap.objs.size:=by simpa using hb
 subst e;exact I1.ab0 (aH _) (I1.mC.fresh (aH _))
def acs{l:Expr}{tl:TE}(hl:PE X l tl):PI X tg l (alF X.K tl):=by
 intro aN s σ H R I h;refine nO (hl aN s σ H _ I h) λv s1 ⟨x,H1,I1,r1,q1⟩=>?_;obtain⟨a,e,⟨xs,hq⟩,q⟩:=q1;subst e
 cases r1;obtain⟨its,rv,p,hz⟩:=I1.tuple hq;refine wpAny_pyIter_tuple (show s1.heap.IsTuple a its.toArray from p) ?_;refine⟨s1.heap.objs.size,[s1.heap.objs.size],_,_,H1,rfl,I1.wK (t':=s1.toks) λb o e=>aL _ e,acP a _,⟨_,aV _ rfl,rfl,rfl⟩,λb hb=>?_,q⟩;have e:b=s1.heap.objs.size:=by simpa using hb
 subst e;exact I1.ab0 (aH _) (I1.mC.fresh (aH _))
def agj{R:It->Hp->Prop}{hi:Int}{t u v:Tok}{tk:Nat}(I:d8 X aN σ H s)(h1:-(2^62)<=lo)(h2:lo<2^62)(h3:-(2^62)<=hi)(h4:hi<2^62)(q:R (Itr lo (hi-lo).toNat) H):wpAny (model X.prog X.w) X.A (pyIter (.ref s.heap.objs.size)) (PIE X aN σ tg R) E {s with heap:=s.heap.push {cls:=.type "range",data:=.fields #[.int lo t,.int hi u,.int 1 v]},toks:=tk}:=by
 refine wpAny_pyIter_range (IsRange.new ..) (small_one h1 h2 h3 h4) ?_;have I1:d8 X aN σ H {s with heap:=s.heap.push {cls:=.type "range",data:=.fields #[.int lo t,.int hi u,.int 1 v]},toks:=tk}:=I.wK λb o e=>aL _ e;refine⟨(s.heap.push {cls:=.type "range",data:=.fields #[.int lo t,.int hi u,.int 1 v]}).objs.size,[(s.heap.push {cls:=.type "range",data:=.fields #[.int lo t,.int hi u,.int 1 v]}).objs.size],_,_,H,rfl,
  I1.wK (t':=tk) λb o e=>aL _ e,acO _ lo (hi-lo).toNat,?_,λb hb=>?_,q⟩
 . have e1:lo+((0:Nat):Int)*1=lo:=by simp
   have e2:(((hi-lo).toNat:Nat):Int)-((0:Nat):Int)=Builtin.Range.rangeSize lo hi 1:=by rw[rangeSize_one];split<;>omega
   show IsRangeIter _ _ (lo+((0:Nat):Int)*1) ((((hi-lo).toNat:Nat):Int)-((0:Nat):Int)) 1
   rw[e1,e2];exact aV _ rfl
 . have e:b=(s.heap.push {cls:=.type "range",data:=.fields #[.int lo t,.int hi u,.int 1 v]}).objs.size:=by simpa using hb
   subst e;exact I1.ab0 (aH _) (I1.mC.fresh (aH _))
def akC(ta:TA):TI:=λσ H R=>ta σ H λvs H1=>∃j:Int,vs=[.int j]/\-(2^62)<=j/\j<2^62/\R (Itr 0 j.toNat) H1
def WW{a:Expr}(hg:Gl X "range")(hm:X.mg "range"=none)(ha:PA X [a] ta)(hs:starEach [a] X.env=[(false,eval a X.env)]:=by rfl):PI X tg (.Call (.Name "range" p) [a] [] pos) (akC ta):=by
 intro aN s σ H R I h;refine Call_ (Kv I hg hm boot_range (jM (nO (ha pos aN s σ H _ I h) λus s1 ⟨vs,H1,I1,r1,q1⟩=>?_) hs rfl));obtain⟨j,e,q1,q2,q⟩:=q1;subst e
 cases r1 with
 |cons r rr=>
  cases rr;obtain⟨t,rfl⟩:=r;exact call_range_1 (agj I1 (by omega) (by omega) q1 q2 (by simpa using q))
def ak5(wi:TI)(g:TG)(tb:TS):TS:=λD σ H=>wi σ H λJ H1=>∃W:Nat->Nat->St->Hp->Prop,(∃m,W 0 m σ H1)/\∀i m σ H,W i m σ H ->
 (J.Im i H/\D.nx σ H)\/(J.go i H/\∃N:St->Hp->Prop,(∀σ' H',N σ' H'->∃m',m'<m/\W (i+1) m' σ' H')/\∀x H',J.yld i H x H'->g x σ H' λσ2 H2=>tb {D with nx:=N,ct:=N,bk:=D.nx} σ2 H2)
def T6(fp:List Addr)(h:Heap):List (Addr×Obj):=fp.filterMap λb=>(h.get? b).map λo=>(b,o)
def Kz(hb:b∈fp)(e:h.get? b=some o):(b,o)∈T6 fp h:=d9.mpr ⟨b,hb,by rw[e];rfl⟩
def aeA{p:Addr×Obj}(hp:p∈T6 fp h):p.1∈fp/\h.get? p.1=some p.2:=by
 obtain⟨b,hb,e⟩:=d9.mp hp
 cases q:h.get? b with
 |none=>rw[q]at e;cases e
 |some o=>
  rw[q]at e;have e':(b,o)=p:=cz e;subst e';exact⟨hb,q⟩
def d8.aga(I:d8 X aN σ H s)(hf:∀b∈fp,RL X aN H b)(ho:∀b∈fp,∃o,s.heap.get? b=some o/\∀v,o.data≠.cell v):d8 X (aN++T6 fp s.heap) σ H s:=
 I.ady λp hp=>(dY.mp hp).elim (λz=>I.Qc p (cF _ z)) λz=>by
  obtain⟨hb,e⟩:=aeA z;obtain⟨f0,f1,f2,_⟩:=hf p.1 hb;obtain⟨o,e',d⟩:=ho p.1 hb;rw[e]at e';cases e';exact⟨e,f0,f1,f2,d⟩
def d8.Nh{pl:List (Addr×Obj)}(I:d8 X (aN++pl) σ H s):d8 X aN σ H s:=I.ady λp hp=>I.Qc p (cF _ (bY _ hp))
def wj{body:List Stmt}{wi:TI}(hp:PassesOwn (model X.prog X.w) X.A X.env X.xe)(hc:X.calm=true)(hi:PI X tg iter wi)(hg:PG X tg g)(hb:Z5 X body tb)(hs:∀x,foldedSetIterable iter X.env x=pure x:=by intro _;rfl):PS X (.For tg iter body [] pos) (ak5 wi g tb):=by
 intro aN s σ H D I h;refine wpAny_For (nO (hi aN s σ H _ I h) λv s1 h1=>nO h1 λitv s2 h2=>?_) hs;obtain⟨it,fp,tn,J,H2,e,I2,T,st2,f2,W,⟨m0,w0⟩,turn⟩:=h2;subst e;have stat:∀{H':Hp},(∀b∈fp,H' b=none)->∀b∈fp,RL X aN H' b:=λhn b hb=>⟨hn b hb,(f2 b hb).2⟩;refine codeAny_forLoop_any (λn s'=>∃i σ' H',d8 X aN σ' H' s'/\tn i s'.heap/\(∀b∈fp,H' b=none)/\W i n σ' H') ?_ m0 ⟨0,σ,H2,I2,st2,λb hb=>(f2 b hb).1,w0⟩;rintro n s3 ⟨i,σ3,H3,I3,st3,fr3,w3⟩;rcases turn i n σ3 H3 w3 with⟨Im,qn⟩|⟨go,N,hN,step⟩
 . refine iJ hp (nO (T.done X rfl rfl rfl hc i aN s3 σ3 H3 X.xe I3 (stat fr3) st3 Im) λr s4 ⟨hr,I4⟩=>?_);subst hr;exact j8 ⟨σ3,H3,I4,qn⟩
 . refine iJ hp (nO (T.item X rfl rfl rfl hc i aN s3 σ3 H3 X.xe I3 (stat fr3) st3 go) λr s4 ⟨u,hr,h4⟩=>?_);subst hr;refine iJ hp (nO h4 λ_ s5 ⟨x,H5,I5,r5,y5,st5,fr5⟩=>?_);have I5':=I5.aga (stat fr5) (T.obj _ _ st5);refine iJ hp (nO (hg _ s5 σ3 H5 x u _ I5' r5 (step x H5 y5)) λ_ s6 ⟨σ6,H6,I6,q6⟩=>?_);refine iJ hp (nO (hb _ s6 σ6 H6 _ I6 q6) λf s7 q7=>?_);have again:∀{σ7:St}{H7:Hp},d8 X (aN++T6 fp s5.heap) σ7 H7 s7->N σ7 H7->∃m,m<n/\∃i σ' H',d8 X aN σ' H' s7/\tn i s7.heap/\(∀b∈fp,H' b=none)/\W i m σ' H':=fun {σ7 H7} I7 n7=>by
    obtain⟨m',hm,w7⟩:=hN σ7 H7 n7;refine⟨m',hm,i+1,σ7,H7,I7.Nh,T.keep _ _ _ st5 λb hb o e=>(I7.Qc (b,o) (cF _ (cF _ (Kz hb e)))).1,λb hb=>?_,w7⟩;obtain⟨o,e,d⟩:=T.obj _ _ st5 b hb;exact(I7.Qc (b,o) (cF _ (cF _ (Kz hb e)))).2.1
   cases f with
   |next=>obtain⟨σ7,H7,I7,n7⟩:=q7;exact again I7 n7
   |cont=>obtain⟨σ7,H7,I7,n7⟩:=q7;exact again I7 n7
   |brk=>obtain⟨σ7,H7,I7,q7⟩:=q7;exact⟨σ7,H7,I7.Nh,q7⟩
   |ret v=>obtain⟨x7,σ7,H7,I7,r7,q7⟩:=q7;exact⟨x7,σ7,H7,I7.Nh,r7,q7⟩
def Hd(Pv:Nat->St->Hp->Prop)(h0:Pv 0 σ H)(hl:∀i σ H,i<=xs.length->Pv i σ H->fH K H a xs)(hs:∀i x σ H,xs[i]? = some x->Pv i σ H->g x σ H λσ2 H2=>tb {D with nx:=Pv (i+1),ct:=Pv (i+1),bk:=D.nx} σ2 H2)(hd:∀σ H,Pv xs.length σ H->D.nx σ H):
 ∃W:Nat->Nat->St->Hp->Prop,(∃m,W 0 m σ H)/\∀i m σ H,W i m σ H ->
  ((Itl K a).Im i H/\D.nx σ H)\/((Itl K a).go i H/\∃N:St->Hp->Prop,(∀σ' H',N σ' H'->∃m',m'<m/\W (i+1) m' σ' H')/\∀x H',(Itl K a).yld i H x H'->g x σ H' λσ2 H2=>tb {D with nx:=N,ct:=N,bk:=D.nx} σ2 H2):=by
 refine⟨λi m σ H=>m=xs.length-i/\i<=xs.length/\Pv i σ H,⟨xs.length,by simp,bW _,h0⟩,?_⟩;rintro i m σ H ⟨rfl,hi,p⟩;have q:=hl i σ H hi p;by_cases hlt:i<xs.length
 . refine .inr ⟨⟨xs,xs[i],q,by simp[hlt]⟩,Pv (i+1),λσ' H' p'=>⟨xs.length-(i+1),by omega,rfl,hlt,p'⟩,λx H' y=>?_⟩;obtain⟨e,y⟩:=y;subst e;exact hs i x σ _ (y xs q) p
 . have e:i=xs.length:=by omega
   subst e;exact .inl ⟨⟨xs,q,aH _⟩,hd σ H p⟩
def ahj(Pv:Nat->St->Hp->Prop)(h0:Pv 0 σ H)(hl:∀i σ H,i<=xs.length->Pv i σ H->Bx K H a xs)(hs:∀i x σ H,xs[i]? = some x->Pv i σ H->g x σ H λσ2 H2=>tb {D with nx:=Pv (i+1),ct:=Pv (i+1),bk:=D.nx} σ2 H2)(hd:∀σ H,Pv xs.length σ H->D.nx σ H):
 ∃W:Nat->Nat->St->Hp->Prop,(∃m,W 0 m σ H)/\∀i m σ H,W i m σ H ->
  ((Itt K a).Im i H/\D.nx σ H)\/((Itt K a).go i H/\∃N:St->Hp->Prop,(∀σ' H',N σ' H'->∃m',m'<m/\W (i+1) m' σ' H')/\∀x H',(Itt K a).yld i H x H'->g x σ H' λσ2 H2=>tb {D with nx:=N,ct:=N,bk:=D.nx} σ2 H2):=by
 refine⟨λi m σ H=>m=xs.length-i/\i<=xs.length/\Pv i σ H,⟨xs.length,by simp,bW _,h0⟩,?_⟩;rintro i m σ H ⟨rfl,hi,p⟩;have q:=hl i σ H hi p;by_cases hlt:i<xs.length
 . refine .inr ⟨⟨xs,xs[i],q,by simp[hlt]⟩,Pv (i+1),λσ' H' p'=>⟨xs.length-(i+1),by omega,rfl,hlt,p'⟩,λx H' y=>?_⟩;obtain⟨e,y⟩:=y;subst e;exact hs i x σ _ (y xs q) p
 . have e:i=xs.length:=by omega
   subst e;exact .inl ⟨⟨xs,q,aH _⟩,hd σ H p⟩
def Wy(Pv:Nat->St->Hp->Prop)(h0:Pv 0 σ H)(hs:∀i σ H,i<n->Pv i σ H->g (.int (lo+i)) σ H λσ2 H2=>tb {D with nx:=Pv (i+1),ct:=Pv (i+1),bk:=D.nx} σ2 H2)(hd:∀σ H,Pv n σ H->D.nx σ H):
 ∃W:Nat->Nat->St->Hp->Prop,(∃m,W 0 m σ H)/\∀i m σ H,W i m σ H ->
  ((Itr lo n).Im i H/\D.nx σ H)\/((Itr lo n).go i H/\∃N:St->Hp->Prop,(∀σ' H',N σ' H'->∃m',m'<m/\W (i+1) m' σ' H')/\∀x H',(Itr lo n).yld i H x H'->g x σ H' λσ2 H2=>tb {D with nx:=N,ct:=N,bk:=D.nx} σ2 H2):=by
 refine⟨λi m σ H=>m=n-i/\i<=n/\Pv i σ H,⟨n,by simp,bW _,h0⟩,?_⟩;rintro i m σ H ⟨rfl,hi,p⟩;by_cases hlt:i<n
 . refine .inr ⟨hlt,Pv (i+1),λσ' H' p'=>⟨n-(i+1),by omega,rfl,hlt,p'⟩,λx H' y=>?_⟩;obtain⟨e,y⟩:=y;subst e y;exact hs i σ _ hlt p
 . have e:i=n:=by omega
   subst e;exact .inl ⟨aH _,hd σ H p⟩
abbrev R2:= V->V->Hp->VK->Prop
def Jh(X:Cx)(f:Value->Value->Sem Value)(r:R2):Prop:=
 ∀(aN:List (Addr×Obj)) (s:Shared) (σ:St) (H:Hp) (x y:V) (v u:Value) (Q:VK),d8 X aN σ H s->jt x v->jt y u->r x y H Q ->
  wpAny (model X.prog X.w) X.A (f v u) (EP X aN σ Q) X.xe s
def UnR(X:Cx)(f:Value->Sem Value)(r:V->Hp->VK->Prop):Prop:=
 ∀(aN:List (Addr×Obj)) (s:Shared) (σ:St) (H:Hp) (x:V) (v:Value) (Q:VK),d8 X aN σ H s->jt x v->r x H Q ->
  wpAny (model X.prog X.w) X.A (f v) (EP X aN σ Q) X.xe s
def Lj(X:Cx)(f:Value)(r:List V->Hp->VK->Prop):Prop:=
 ∀(aN:List (Addr×Obj)) (s:Shared) (σ:St) (H:Hp) (xs:List V) (us:List Value) (Q:VK),d8 X aN σ H s->ie xs us->r xs H Q ->
  wpAny (model X.prog X.w) X.A (call f us) (EP X aN σ Q) X.xe s
def tOp(r:R2)(ta tb:TE):TE:=λσ H Q=>ta σ H λx H1=>tb σ H1 λy H2=>r x y H2 Q
def tUn(r:V->Hp->VK->Prop)(ta:TE):TE:=λσ H Q=>ta σ H λx H1=>r x H1 Q
inductive rI(C:Int->Int->Prop)(g:Int->Int->V)(x:V)(y:V)(H:Hp)(Q:VK):Prop
 |mk (i:_) (j:_) (_:x=.int i) (_:y=.int j) (_:C i j) (_:Q (g i j) H)
inductive rI0(g:Int->Int->V)(x:V)(y:V)(H:Hp)(Q:VK):Prop
 |mk (i:_) (j:_) (_:x=.int i) (_:y=.int j) (_:Q (g i j) H)
inductive rU(g:Int->V)(x:V)(H:Hp)(Q:VK):Prop
 |mk (i:_) (_:x=.int i) (_:Q (g i) H)
section
variable{a b:Expr}{ta tb tc:TE}
def aiN(ha:PE X a ta)(hb:PE X b tb){R:V->V->Hp->Prop}(I:d8 X aN σ H s)(h:ta σ H λx H1=>tb σ H1 λy H2=>R x y H2){f:Value->Value->Sem Value}(hf:∀v u s2 x y H2,d8 X aN σ H2 s2->jt x v->jt y u->R x y H2->wpAny (model X.prog X.w) X.A (f v u) Q X.xe s2):
 wpAny (model X.prog X.w) X.A (eval a X.env) (λv s₁=>wpAny (model X.prog X.w) X.A (eval b X.env) (λu s₂=>wpAny (model X.prog X.w) X.A (f v u) Q X.xe s₂) X.xe s₁) X.xe s:=by
 refine nO (ha aN s σ H _ I h) λv s1 ⟨x,H1,I1,r1,q1⟩=>?_;refine nO (hb aN s1 σ H1 _ I1 q1) λu s2 ⟨y,H2,I2,r2,q2⟩=>?_;exact hf v u s2 x y H2 I2 r1 r2 q2
def iW{op:Operator}{r:R2}(ho:Jh X (binaryOp op) r)(ha:PE X a ta)(hb:PE X b tb):PE X (.BinOp a op b pos) (tOp r ta tb):=by
 intro aN s σ H Q I h;exact wpAny_BinOp (aiN ha hb I h λv u s2 x y H2 I2 rx ry q=>ho aN s2 σ H2 x y v u Q I2 rx ry q)
def af8{op:UnaryOp}{r:V->Hp->VK->Prop}(ho:UnR X (unaryOp op) r)(ha:PE X a ta):PE X (.UnaryOp op a pos) (tUn r ta):=by
 intro aN s σ H Q I h;exact UnaryOp_ (nO (ha aN s σ H _ I h) λv s1 ⟨x,H1,I1,r1,q1⟩=>ho aN s1 σ H1 x v Q I1 r1 q1)
def opI{f:Value->Value->Sem Value}{C:Int->Int->Prop}{g:Int->Int->Int}(rule:∀(i j:Int)(t u:Tok)(s:Shared)(Q:Value->Shared->Prop)(E:Value->Shared->Prop),C i j->Q (.int (g i j) s.toks) {s with toks:=s.toks+1}->wpAny (model X.prog X.w) X.A (f (.int i t) (.int j u)) Q E s):
 Jh X f (rI C λi j=>.int (g i j)):=by
 intro aN s σ H x y v u Q I rx ry h;obtain⟨i,j,rfl,rfl,hc,q⟩:=h;obtain⟨t,rfl⟩:=rx;obtain⟨t',rfl⟩:=ry;exact rule i j t t' s _ _ hc ⟨.int (g i j),H,I.Dr _,⟨_,rfl⟩,q⟩
def ahH{f:Value->Value->Sem Value}{g:Int->Int->Int}(rule:∀(i j:Int)(t u:Tok)(s:Shared)(Q:Value->Shared->Prop)(E:Value->Shared->Prop),Q (.int (g i j) s.toks) {s with toks:=s.toks+1}->wpAny (model X.prog X.w) X.A (f (.int i t) (.int j u)) Q E s):
 Jh X f (rI0 λi j=>.int (g i j)):=by
 intro aN s σ H x y v u Q I rx ry h;obtain⟨i,j,rfl,rfl,q⟩:=h;obtain⟨t,rfl⟩:=rx;obtain⟨t',rfl⟩:=ry;exact rule i j t t' s _ _ ⟨.int (g i j),H,I.Dr _,⟨_,rfl⟩,q⟩
def ahG{f:Value->Value->Sem Value}{g:Int->Int->Bool}(rule:∀(i j:Int)(t u:Tok)(s:Shared)(Q:Value->Shared->Prop)(E:Value->Shared->Prop),Q (.bool (g i j)) s->wpAny (model X.prog X.w) X.A (f (.int i t) (.int j u)) Q E s):
 Jh X f (rI0 λi j=>.bl (g i j)):=by
 intro aN s σ H x y v u Q I rx ry h;obtain⟨i,j,rfl,rfl,q⟩:=h;obtain⟨t,rfl⟩:=rx;obtain⟨t',rfl⟩:=ry;exact rule i j t t' s _ _ ⟨.bl (g i j),H,I,rfl,q⟩
def alr(i j:Int):Prop:=0<j/\j<1073741824
def agX(i j:Int):Prop:=(-(2^64)<i/\i<2^64)\/(-(2^64)<j/\j<2^64)
def agX.ok{i j:Int}(h:agX i j):IntMulOk i j:=by
 rcases h with⟨h1,h2⟩|⟨h1,h2⟩
 . exact .of_left (intBits_le_64 h1 h2)
 . exact .of_right (intBits_le_64 h1 h2)
def oG:Jh X (binaryOp .Add) (rI0 λi j=>.int (i+j)):=ahH λ_ _ _ _ _ _ _ q=>add_int q
def Em:Jh X (binaryOp .Sub) (rI0 λi j=>.int (i-j)):=ahH λ_ _ _ _ _ _ _ q=>sub_int q
def acq:Jh X (binaryOp .Mult) (rI agX λi j=>.int (i*j)):=opI λ_ _ _ _ _ _ _ hc q=>mul_int q hc.ok
def adu:Jh X (binaryOp .FloorDiv) (rI alr λi j=>.int (i / j)):=opI λi j _ _ _ _ _ hc q=>by
 have h1:(0:Int)<j:=hc.1;have h2:j<1073741824:=hc.2;exact floordiv_int (by omega) (by rw[Int.fdiv_eq_ediv_of_nonneg i (by omega)];exact q) (.inl (PyProof.noPylong_small (by omega)))
def TQ:Jh X (binaryOp .Mod) (rI (λ_ j=>0<j) λi j=>.int (i%j)):=opI λi j _ _ _ _ _ hc q=>by
 have h1:(0:Int)<j:=hc;exact mod_int' (by omega) (by rw[Int.fmod_eq_emod_of_nonneg i (by omega)];exact q)
def Y4:Jh X (binaryOp .BitAnd) (rI0 λi j=>.int (Builtin.bitAnd i j)):=ahH λ_ _ _ _ _ _ _ q=>and_int q
def Rp:Jh X (inplaceOp .Add) (rI0 λi j=>.int (i+j)):=ahH λ_ _ _ _ _ _ _ q=>iadd_int q
def ahq:Jh X (inplaceOp .Mult) (rI agX λi j=>.int (i*j)):=opI λ_ _ _ _ _ _ _ hc q=>imul_int q hc.ok
def unI{f:Value->Sem Value}{g:Int->Int}(rule:∀(i:Int)(t:Tok)(s:Shared)(Q:Value->Shared->Prop)(E:Value->Shared->Prop),Q (.int (g i) s.toks) {s with toks:=s.toks+1}->wpAny (model X.prog X.w) X.A (f (.int i t)) Q E s):
 UnR X f (rU λi=>.int (g i)):=by
 intro aN s σ H x v Q I rx h;obtain⟨i,rfl,q⟩:=h;obtain⟨t,rfl⟩:=rx;exact rule i t s _ _ ⟨.int (g i),H,I.Dr _,⟨_,rfl⟩,q⟩
def acS:UnR X (unaryOp .USub) (rU λi=>.int (-i)):=unI λ_ _ _ _ _ q=>neg_int q
end
def ajH:V->V->Bool
 |.non,.non=>true|.non,.int _=>true|.int _,.non=>true|.non,.bl _=>true|.bl _,.non=>true|.non,.str _=>true|.str _,.non=>true
 |.int _,.int _=>true|.bl _,.bl _=>true|.str _,.str _=>true|.byt _,.byt _=>true
 |.int _,.str _=>true|.str _,.int _=>true|.bl _,.str _=>true|.str _,.bl _=>true
 |_,_=>false
def rEq:R2:=λx y H Q=>ajH x y=true/\Q (.bl (decide (x=y))) H
def rNe:R2:=λx y H Q=>ajH x y=true/\Q (.bl (!decide (x=y))) H
def ac7{i j:Int}:decide (V.int i=V.int j)=(i==j):=by
 rw[bR];simp
def afn{i j:Bool}:decide (V.bl i=V.bl j)=(i==j):=by
 rw[bR];simp
def ac8{i j:Str}:decide (V.str i=V.str j)=(i==j):=by
 rw[bR];simp
def ac6{i j:Array UInt8}:decide (V.byt i=V.byt j)=(i.toList==j.toList):=by
 rw[bR]
 cases i
 cases j;simp
section
variable{a b:Expr}{ta tb tc:TE}
def j6{Q:VK}{k k':Bool}(I:d8 X aN σ H s)(q:Q (.bl k) H)(e:k=k'):EP X aN σ Q (.bool k') s:=by
 subst e;exact⟨.bl k,H,I,rfl,q⟩
def pI:Jh X (compareOp .Eq) rEq:=by
 intro aN s σ H x y v u Q I rx ry h;obtain⟨hs,q⟩:=h
 cases x with
 |non=>
  cases rx
  cases y with
  |non=>cases ry;exact PySem.EqNone.eq_none_none (j6 I q (by simp))
  |bl j=>cases ry;exact PySem.EqNone.eq_none_bool (j6 I q (by simp))
  |int j=>obtain⟨t',rfl⟩:=ry;exact PySem.EqNone.eq_none_int (j6 I q (by simp))
  |str j=>obtain⟨t',rfl⟩:=ry;exact PySem.EqNone.eq_none_str (j6 I q (by simp))
  |_=>exact absurd (show false=true from hs) aW
 |bl i=>
  cases rx
  cases y with
  |non=>cases ry;exact PySem.EqNone.eq_bool_none (j6 I q (by simp))
  |bl j=>cases ry;exact eq_bool (j6 I q afn)
  |str j=>obtain⟨t',rfl⟩:=ry;exact PySem.EqMixed.eq_bool_str (j6 I q (by simp))
  |_=>exact absurd (show false=true from hs) aW
 |int i=>
  obtain⟨t,rfl⟩:=rx
  cases y with
  |non=>cases ry;exact PySem.EqNone.eq_int_none (j6 I q (by simp))
  |int j=>obtain⟨t',rfl⟩:=ry;exact eq_int (j6 I q ac7)
  |str j=>obtain⟨t',rfl⟩:=ry;exact PySem.EqMixed.eq_int_str (j6 I q (by simp))
  |_=>exact absurd (show false=true from hs) aW
 |str i=>
  obtain⟨t,rfl⟩:=rx
  cases y with
  |non=>cases ry;exact PySem.EqNone.eq_str_none (j6 I q (by simp))
  |bl j=>cases ry;exact PySem.EqMixed.eq_str_bool (j6 I q (by simp))
  |int j=>obtain⟨t',rfl⟩:=ry;exact PySem.EqMixed.eq_str_int (j6 I q (by simp))
  |str j=>obtain⟨t',rfl⟩:=ry;exact eq_str (j6 I q ac8)
  |_=>exact absurd (show false=true from hs) aW
 |byt i=>
  obtain⟨t,rfl⟩:=rx
  cases y with
  |byt j=>obtain⟨t',rfl⟩:=ry;exact PySem.W.eq_bytes (j6 I q ac6)
  |_=>exact absurd (show false=true from hs) aW
 |_=>cases y<;>exact absurd (show false=true from hs) aW
def uA:Jh X (compareOp .NotEq) rNe:=by
 intro aN s σ H x y v u Q I rx ry h;obtain⟨hs,q⟩:=h
 cases x with
 |non=>
  cases rx
  cases y with
  |non=>cases ry;exact PySem.EqNone.ne_none_none (j6 I q (by simp))
  |bl j=>cases ry;exact PySem.EqNone.ne_none_bool (j6 I q (by simp))
  |int j=>obtain⟨t',rfl⟩:=ry;exact PySem.EqNone.ne_none_int (j6 I q (by simp))
  |str j=>obtain⟨t',rfl⟩:=ry;exact PySem.EqNone.ne_none_str (j6 I q (by simp))
  |_=>exact absurd (show false=true from hs) aW
 |bl i=>
  cases rx
  cases y with
  |non=>cases ry;exact PySem.EqNone.ne_bool_none (j6 I q (by simp))
  |bl j=>cases ry;exact ne_bool (j6 I q (j0 not afn))
  |str j=>obtain⟨t',rfl⟩:=ry;exact PySem.EqMixed.ne_bool_str (j6 I q (by simp))
  |_=>exact absurd (show false=true from hs) aW
 |int i=>
  obtain⟨t,rfl⟩:=rx
  cases y with
  |non=>cases ry;exact PySem.EqNone.ne_int_none (j6 I q (by simp))
  |int j=>obtain⟨t',rfl⟩:=ry;exact ne_int (j6 I q (j0 not ac7))
  |str j=>obtain⟨t',rfl⟩:=ry;exact PySem.EqMixed.ne_int_str (j6 I q (by simp))
  |_=>exact absurd (show false=true from hs) aW
 |str i=>
  obtain⟨t,rfl⟩:=rx
  cases y with
  |non=>cases ry;exact PySem.EqNone.ne_str_none (j6 I q (by simp))
  |bl j=>cases ry;exact PySem.EqMixed.ne_str_bool (j6 I q (by simp))
  |int j=>obtain⟨t',rfl⟩:=ry;exact PySem.EqMixed.ne_str_int (j6 I q (by simp))
  |str j=>obtain⟨t',rfl⟩:=ry;exact ne_str (j6 I q (j0 not ac8))
  |_=>exact absurd (show false=true from hs) aW
 |byt i=>
  obtain⟨t,rfl⟩:=rx
  cases y with
  |byt j=>obtain⟨t',rfl⟩:=ry;exact PySem.W.ne_bytes (j6 I q (j0 not ac6))
  |_=>exact absurd (show false=true from hs) aW
 |_=>cases y<;>exact absurd (show false=true from hs) aW
def yS:Jh X (compareOp .Lt) (rI0 λi j=>.bl (decide (i<j))):=ahG λ_ _ _ _ _ _ _ q=>lt_int q
def yR:Jh X (compareOp .LtE) (rI0 λi j=>.bl (decide (i<=j))):=ahG λ_ _ _ _ _ _ _ q=>le_int q
def qF:Jh X (compareOp .Gt) (rI0 λi j=>.bl (decide (j<i))):=ahG λ_ _ _ _ _ _ _ q=>gt_int q
def TJ:Jh X (compareOp .GtE) (rI0 λi j=>.bl (decide (j<=i))):=ahG λ_ _ _ _ _ _ _ q=>ge_int q
def OJ:Jh X (compareOp .Is) (λx y H Q=>y=.non/\Q (.bl (decide (x=.non))) H):=by
 intro aN s σ H x y v u Q I rx ry h;obtain⟨rfl,q⟩:=h
 cases ry;refine is_none_gen (j6 I q ?_)
 cases x<;>first
  |(cases rx;rfl)
  |(obtain⟨t,rfl⟩:=rx;rfl)
def ahI:Jh X (compareOp .IsNot) (λx y H Q=>y=.non/\Q (.bl (!decide (x=.non))) H):=by
 intro aN s σ H x y v u Q I rx ry h;obtain⟨rfl,q⟩:=h
 cases ry;refine isnot_none_gen (j6 I q ?_)
 cases x<;>first
  |(cases rx;rfl)
  |(obtain⟨t,rfl⟩:=rx;rfl)
def bO(b:Expr){op:CmpOp}(h:op≠.In:=by decide)(h2:op≠.NotIn:=by decide):behindInMarks op b=false:=by
 have e1:(op==CmpOp.In)=false:=by cases op<;>first|rfl|exact absurd rfl h
 have e2:(op==CmpOp.NotIn)=false:=by cases op<;>first|rfl|exact absurd rfl h2
 cases b<;>simp[behindInMarks,e1,e2]
def mL{op:CmpOp}{r:R2}(ho:Jh X (compareOp op) r)(ha:PE X a ta)(hb:PE X b tb)(hm:behindInMarks op b=false):PE X (.Compare a [op] [b] pos) (tOp r ta tb):=by
 intro aN s σ H Q I h;exact wpAny_Compare1 (aiN ha hb I h λv u s2 x y H2 I2 rx ry q=>ho aN s2 σ H2 x y v u Q I2 rx ry q) hm
def Ql(t:TE):TT:=λσ H Q=>t σ H λx H'=>BlP x H' Q
def bF{op:CmpOp}{r:R2}(ho:Jh X (compareOp op) r)(ha:PE X a ta)(hb:PE X b tb)(hm:behindInMarks op b=false):PT X (.Compare a [op] [b] pos) (Ql (tOp r ta tb)):=by
 intro aN s σ H Q I h;refine wpAny_isTrue_Compare1 (nO (ha aN s σ H _ I h) λv s1 ⟨x,H1,I1,r1,q1⟩=>nO (hb aN s1 σ H1 _ I1 q1) λu s2 ⟨y,H2,I2,r2,q2⟩=>
  nO (ho aN s2 σ H2 x y v u _ I2 r1 r2 q2) λc s3 ⟨z,H3,I3,r3,k,e,q3⟩=>?_) hm
 subst e
 cases r3;exact eG ⟨H3,I3,q3⟩
def acI(r r':R2)(ta tb tc:TE):TE:=λσ H Q=>ta σ H λx H1=>tb σ H1 λy H2=>r x y H2 λz H3=>∃k,z=.bl k /\
 (if k=true then tc σ H3 λw' H4=>r' y w' H4 Q else Q (.bl false) H3)
def aa5{op op':CmpOp}{r r':R2}(ho:Jh X (compareOp op) r)(ho':Jh X (compareOp op') r')(ha:PE X a ta)(hb:PE X b tb)(hc:PE X c tc)(hm:lastMarks [op,op'] [b,c]=false:=by with_unfolding_all rfl):PE X (.Compare a [op,op'] [b,c] pos) (acI r r' ta tb tc):=by
 intro aN s σ H Q I h;refine Compare_chain (nO (ha aN s σ H _ I h) λv s1 ⟨x,H1,I1,r1,q1⟩=>chain_link (nO (hb aN s1 σ H1 _ I1 q1) λu s2 ⟨y,H2,I2,r2,q2⟩=>
  nO (ho aN s2 σ H2 x y v u _ I2 r1 r2 q2) λd s3 ⟨z,H3,I3,r3,k,e,q3⟩=>?_)) hm
 subst e
 cases r3;refine eG ?_
 cases k with
 |false=>exact ite_ff ⟨.bl false,H3,I3,rfl,q3⟩
 |true=>exact ite_tt (chain_last (nO (hc aN s3 σ H3 _ I3 q3) λw' s4 ⟨z',H4,I4,r4,q4⟩=>ho' aN s4 σ H4 y z' u w' Q I4 r2 r4 q4))
def Df{op op':CmpOp}{r r':R2}(ho:Jh X (compareOp op) r)(ho':Jh X (compareOp op') r')(ha:PE X a ta)(hb:PE X b tb)(hc:PE X c tc)(hm:lastMarks [op,op'] [b,c]=false:=by with_unfolding_all rfl):PT X (.Compare a [op,op'] [b,c] pos) (Ql (acI r r' ta tb tc)):=by
 intro aN s σ H Q I h;refine isTrue_chain (nO (ha aN s σ H _ I h) λv s1 ⟨x,H1,I1,r1,q1⟩=>test_link (nO (hb aN s1 σ H1 _ I1 q1) λu s2 ⟨y,H2,I2,r2,q2⟩=>
  nO (ho aN s2 σ H2 x y v u _ I2 r1 r2 q2) λd s3 ⟨z,H3,I3,r3,k,e,q3⟩=>?_)) hm
 subst e
 cases r3;refine eG ?_
 cases k with
 |false=>
  obtain⟨k',e',q'⟩:=q3
  cases e';exact ite_ff ⟨H3,I3,q'⟩
 |true=>
  refine ite_tt (test_last (nO (hc aN s3 σ H3 _ I3 q3) λw' s4 ⟨z',H4,I4,r4,q4⟩=>nO (ho' aN s4 σ H4 y z' u w' _ I4 r2 r4 q4) λd' s5 ⟨z2,H5,I5,r5,k2,e2,q5⟩=>?_));subst e2
  cases r5;exact eG ⟨H5,I5,q5⟩
def ab9:(sizeLine:Nat)<2^63:=by rw[bw];decide
def agN{x:V}(r:ie [x] us):∃u,us=[u]/\jt x u:=by
 cases r with
 |cons r1 r2=>cases r2;exact⟨_,rfl,r1⟩
def aiC{x:V}(r:ie [x,y] us):∃u w',us=[u,w']/\jt x u/\jt y w':=by
 cases r with
 |cons r1 r2=>
  cases r2 with
  |cons r3 r4=>cases r4;exact⟨_,_,rfl,r1,r3⟩
def ad6(hc:X.calm=true):Lj X (.builtin "max") (λxs H Q=>∃i j,xs=[.int i,.int j]/\Q (.int (if j>i then j else i)) H):=by
 intro aN s σ H xs us Q I r h;obtain⟨i,j,rfl,q⟩:=h;obtain⟨u,w',rfl,⟨t,rfl⟩,⟨t',rfl⟩⟩:=aiC r;refine max_two_ints (I.ok.hd hc) λh' tk k=>⟨_,H,I.wK k,?_,q⟩;by_cases hj:j>i
 . rw[if_pos hj,if_pos hj];exact⟨_,rfl⟩
 . rw[if_neg hj,if_neg hj];exact⟨_,rfl⟩
def ad7(hc:X.calm=true):Lj X (.builtin "min") (λxs H Q=>∃i j,xs=[.int i,.int j]/\Q (.int (if j<i then j else i)) H):=by
 intro aN s σ H xs us Q I r h;obtain⟨i,j,rfl,q⟩:=h;obtain⟨u,w',rfl,⟨t,rfl⟩,⟨t',rfl⟩⟩:=aiC r;refine min_two_ints (I.ok.hd hc) λh' tk k=>⟨_,H,I.wK k,?_,q⟩;by_cases hj:j<i
 . rw[if_pos hj,if_pos hj];exact⟨_,rfl⟩
 . rw[if_neg hj,if_neg hj];exact⟨_,rfl⟩
def afh:Lj X (.builtin "ord") (λxs H Q=>∃x,xs=[.str x]/\x.length=1/\Q (.int (x.cps.getD 0 0:Nat)) H):=by
 intro aN s σ H xs us Q I r h;obtain⟨x,rfl,hz,q⟩:=h;obtain⟨u,rfl,t,rfl⟩:=agN r;exact ord_of_one hz ⟨.int _,H,I.Dr _,⟨_,rfl⟩,q⟩
end
end L2
variable{r:L2.R2}
namespace L2
open PySem PySem.Spec PyProof.Rows
structure abB(h:Heap)(x dx C:Addr)(mA:Str->Option Value):Prop where
 obj:h.get? x=some (PySem.W.instObj C dx)
 ns:h.Ns1 dx mA
 ne:dx≠x
def aey{dx:Addr}{mA:Str->Option Value}(n:h.Ns1 dx mA):∃od,h.get? dx=some od/\∀name,PySem.W.lookIn name od=some (mA name):=by
 obtain⟨o,es,ep,ho,hd,hk,_,hm⟩:=n;refine⟨o,ho,λname=>?_⟩;have e:=hm name;unfold nsFind findBy at e;rw[<-Array.find?_toList]at e;unfold PySem.W.lookIn;rw[hd];dsimp only;split
 . rename_i y q;rw[q]at e;exact j0 some e
 . rename_i q;rw[q]at e;have a:es.toList.any (·.refKey)=false:=by
    rw[List.any_eq_false];intro y hy;obtain⟨z,t,hkey⟩:=hk y (Array.mem_toList_iff.mp hy);simp[DictEntry.refKey,hkey]
   have a':¬es.toList.any (·.refKey)=true:=by rw[a];exact aW
   rw[if_neg a'];exact j0 some e
def abB.aex{x dx:Addr}{mA:Str->Option Value}(I:abB h x dx C mA):∃od,PySem.W.InstAt h x (PySem.W.instObj C dx) C (some od)/\∀name,PySem.W.lookIn name od=some (mA name):=
 let⟨od,ho,hl⟩:=aey I.ns
 ⟨od,⟨I.obj,rfl,rfl,ho⟩,hl⟩
section
variable{x dx:Addr}{mA:Str->Option Value}{name:Str}{v:Value}
def ahk{expr:Bool}(X:K.In s.heap)(I:abB s.heap x dx C mA)(hg:PySem.W.plainGet K C name=true)(hh:PySem.W.hasDictIn K C=true)(ha:PySem.W.findIn K (.ref C) name=some none)(hv:mA name=some v)(hv':PySem.W.handedIn v=true)(h:Q v {s with toks:=s.toks+1}):
 wpAny (model prog w) A (getAttr (.ref x) name expr) Q E s:=by
 obtain⟨od,J,hl⟩:=I.aex;exact PySem.W.get_value X J (rn hg).1 (PySem.W.findObj_own hh ha rfl (by rw[hl,hv])) hv' h
def afF{pl:Sem Bool}{Q:Value×List Value->Shared->Prop}(X:K.In s.heap)(I:abB s.heap x dx C mA)(hg:PySem.W.plainGet K C name=true)(hf:PySem.W.findIn K (.ref C) name=some (some (.ref f)))(ht:PySem.W.isFn K (.ref f)=true)(hv:mA name=none)(h:Q (.ref f,[.ref x]) s):
 wpAny (model prog w) A (getMethod (.ref x) name pl) Q E s:=by
 obtain⟨od,J,hl⟩:=I.aex;exact PySem.W.method_fn X J (rn hg).1 (rn hg).2 hf (je.mp ht) (by show (PySem.W.lookIn name od).map (·.isSome)=some false;rw[hl,hv];rfl) h
def ahZ{ns:List Str}{Q:Unit->Shared->Prop}(X:K.In s.heap)(I:abB s.heap x dx C mA)(hs:PySem.W.findIn K (.ref C) "__setattr__"=some (some (.builtin "object.__setattr__")))(hp:PySem.W.plainOver K C=true)(ht:PySem.W.takerIn K C name=some none)(hh:PySem.W.hasDictIn K C=true)(hw:PySem.Within mA ns)(hsz:ns.length<=sizeLine)(h:∀h',abB h' x dx C (λy=>if y=name then some v else mA y)->Heap.SameBut dx s.heap h'->Q () {s with heap:=h',toks:=s.toks+2}):
 wpAny (model prog w) A (setAttr (.ref x) name v) Q E s:=by
 obtain⟨od,J,hl⟩:=I.aex;refine PySem.W.set_plain X J hs (PySem.W.osa_open (s:={s with toks:=s.toks+1}) (r:=none) X J hp ht λb=>?_);obtain⟨cd,hc,hd'⟩:=PySem.W.any_some hh;have hx:s.heap.get? x=some ⟨.ref C,some dx,.plain,#[]⟩:=I.obj;refine aj (aA (aj (aj (wpAny_loadPart hx (aj (PySem.W.Looks.here (s:={s with toks:=s.toks+1}) (PySem.W.looks_clsIn X hc) ?_))))));rw[hd'];refine aA (a:=some dx) (aj (aA (aj ?_)));refine wpAny_nsSet1 (s:={s with toks:=s.toks+1}) I.ns λh' hn2 hs2=>?_;obtain⟨oD,esD,epD,hoD,hdD,hcD⟩:=hn2.count (PySem.Within.cons name v hw);refine aj (wpAny_lookBehind hoD (by rw[hdD];exact pastItsLine_dict (cG hcD (by rw[bj];omega))) ?_)
 exact aA (h _ ⟨(hs2.2 _ (Ne.symm I.ne)).trans I.obj,hn2,I.ne⟩ hs2)
def afS{R:Result->Shared->Prop}{vs:List Value}(X:K.In s.heap)(hm:PySem.W.makesIn K C=true)(hi:PySem.W.findIn K (.ref C) "__init__"=some (some (.ref f)))(hf:PySem.W.typeIn K (.ref f)=some (.type "function"))(h:codeAny (model prog w) (A.under (.builtin "type.__call__" ⟨.ref C::vs,kw⟩)) (.call (.ref f) ⟨.ref (s.heap.objs.size+1)::vs,kw⟩) (PySem.W.InitBack (s.heap.objs.size+1) R)
 {s with heap:=(s.heap.push PySem.W.emptyDict).push (PySem.W.instObj C s.heap.objs.size)}):
 codeAny (model prog w) A (.call (.ref C) ⟨vs,kw⟩) R s:=by
 obtain⟨hh,g,d,t,os⟩:=s;exact PySem.W.make_core (PySem.W.makes_of X hm) (PySem.W.looks_findIn X hi) (λself=>PySem.W.bind_fn X self hf) (.inl rfl) h
end
def kY(f:Str)(v:V):List (Str×V)->List (Str×V)
 |[]=>[(f,v)]
 |(g,x)::r=>if g=f then (g,v)::r else (g,x)::kY f v r
theorem PN(f g:Str)(v:V):∀fs:List (Str×V),(kY f v fs).lookup g=if g=f then some v else fs.lookup g
 |[]=>by
  show List.lookup g [(f,v)]=_
  by_cases h:g=f
  . have hb:(g==f)=true:=je.mpr h;simp only[List.lookup,hb,if_pos h]
  . have hb:(g==f)=false:=jk.mpr h;simp only[List.lookup,hb,if_neg h]
 |(k,x)::r=>by
  have ih:=PN f g v r;rw[show kY f v ((k,x)::r)=(if k=f then (k,v)::r else (k,x)::kY f v r) from rfl]
  by_cases hk:k=f
  . rw[if_pos hk];by_cases h:g=k
    . have hb:(g==k)=true:=je.mpr h;simp only[List.lookup,hb,if_pos (h.trans hk)]
    . have hb:(g==k)=false:=jk.mpr h;simp only[List.lookup,hb,if_neg (λe:g=f=>h (e.trans hk.symm))]
  . rw[if_neg hk];by_cases h:g=k
    . have hb:(g==k)=true:=je.mpr h;simp only[List.lookup,hb,if_neg (λe:g=f=>hk (h.symm.trans e))]
    . have hb:(g==k)=false:=jk.mpr h;simp only[List.lookup,hb];exact ih
theorem Ob(f:Str)(v:V):∀fs:List (Str×V),f∈(kY f v fs).map (·.1)/\∀g,g∈fs.map (·.1)->g∈(kY f v fs).map (·.1)
 |[]=>⟨by simp[kY],λg h=>by simp at h⟩
 |(k,x)::r=>by
  obtain⟨i1,i2⟩:=Ob f v r;rw[show kY f v ((k,x)::r)=(if k=f then (k,v)::r else (k,x)::kY f v r) from rfl]
  by_cases hk:k=f
  . rw[if_pos hk];subst hk;exact⟨by simp,λg h=>by simpa using h⟩
  . rw[if_neg hk];refine⟨?_,λg h=>?_⟩
    . rw[bG];exact cJ _ i1
    . rw[bG]at h ⊢;rcases aJ.mp h with e|e
      . exact aJ.mpr (.inl e)
      . exact cJ _ (i2 g e)
theorem PJ(f:Str)(v:V):∀fs:List (Str×V),(kY f v fs).length<=fs.length+1
 |[]=>by simp[kY]
 |(k,x)::r=>by
  have ih:=PJ f v r;rw[show kY f v ((k,x)::r)=(if k=f then (k,v)::r else (k,x)::kY f v r) from rfl]
  by_cases hk:k=f
  . rw[if_pos hk,bj,bj];omega
  . rw[if_neg hk,bj,bj];omega
def DW.Ry{o:Option Value}(r:DW (some v) o):∃u,o=some u/\jt v u:=by
 cases o with
 |none=>exact(show False from r).elim
 |some u=>exact⟨u,rfl,r⟩
def DW.ahx{o:Option Value}(r:DW none o):o=none:=by
 cases o with
 |none=>rfl
 |some u=>exact(show False from r).elim
def ael(r:jt v u):PySem.W.handedIn u=true:=by
 cases v with
 |non=>cases (show u=Value.none from r);rfl
 |bl b=>cases (show u=Value.bool b from r);rfl
 |int i=>obtain⟨t,e⟩:=(show ∃t,u=Value.int i t from r);cases e;rfl
 |str x=>obtain⟨t,e⟩:=(show ∃t,u=Value.str x t from r);cases e;rfl
 |byt b=>obtain⟨t,e⟩:=(show ∃t,u=Value.bytes b t from r);cases e;rfl
 |flt b=>obtain⟨t,e⟩:=(show ∃t,u=Value.float b t from r);cases e;rfl
 |ref a=>cases (show u=Value.ref a from r);rfl
 |ty n=>cases (show u=Value.type n from r);rfl
section
variable{dx:Addr}{fs fs':List (Str×V)}
def Yq(mC:GK P w H h)(e:H a=some (.ins C dx fs)):∃mA,abB h a dx C mA/\(∀f,DW (fs.lookup f) (mA f))/\PySem.Within mA (fs.map (·.1))/\fs.length<=1000/\H dx=some (.own a):=by
 obtain⟨d,z,ne,ob,mA,n,r,q⟩:=(show sG P w H h a (.ins C dx fs) from mC a _ e);exact⟨mA,⟨ob,n,ne⟩,r,q,z,d⟩
end
structure RJ(K:Fg)(C:Addr):Prop where
 pg:PySem.W.plainGet K C Str.empty=true
 hd:PySem.W.hasDictIn K C=true
 po:PySem.W.plainOver K C=true
 sa:PySem.W.findIn K (.ref C) "__setattr__"=some (some (.builtin "object.__setattr__"))
def RJ.get{K:Fg}{C:Addr}(c:RJ K C)(f:Str):PySem.W.plainGet K C f=true:=c.pg
def gB(K:Fg)(C:Addr)(f:Str):Prop:=PySem.W.findIn K (.ref C) f=some none
def gB.ald{f:Str}(n:gB K C f):PySem.W.takerIn K C f=some none:=by
 unfold PySem.W.takerIn;rw[show PySem.W.findIn K (.ref C) f=some none from n];rfl
structure adX(K:Fg)(C:Addr)(m:Str)(f:Addr):Prop where
 at_:PySem.W.findIn K (.ref C) m=some (some (.ref f))
 fn:PySem.W.isFn K (.ref f)=true
 kp:PySem.W.keepIn K (.ref f)=true
section
variable{dx:Addr}{fs:List (Str×V)}{f:Str}
def Sx{b:Bool}(I:d8 X aN σ H s)(e:H a=some (.ins C dx fs))(c:RJ X.K C)(n:gB X.K C f)(l:fs.lookup f=some v)(h:∀u s',d8 X aN σ H s'->jt v u->Q u s'):wpAny (model X.prog X.w) A (getAttr (.ref a) f b) Q E s:=by
 obtain⟨mA,O,r,_,_,_⟩:=Yq I.mC e;obtain⟨u,hu,ru⟩:=DW.Ry (v:=v) (o:=mA f) (by rw[<-l];exact r f)
 exact ahk I.kIn O (c.get f) c.hd n hu (ael ru) (h u _ (I.Dr _) ru)
def Ku{m:Str}{g:Addr}{pl:Sem Bool}{Q:Value×List Value->Shared->Prop}(I:d8 X aN σ H s)(e:H a=some (.ins C dx fs))(c:RJ X.K C)(k:adX X.K C m g)(l:fs.lookup m=none)(h:Q (.ref g,[.ref a]) s):wpAny (model X.prog X.w) A (getMethod (.ref a) m pl) Q E s:=by
 obtain⟨mA,O,r,_,_,_⟩:=Yq I.mC e;have hn:mA m=none:=DW.ahx (by rw[<-l];exact r m)
 exact afF I.kIn O (c.get m) k.at_ k.fn hn h
def Ul{Q:Unit->Shared->Prop}(I:d8 X aN σ H s)(e:H a=some (.ins C dx fs))(c:RJ X.K C)(n:gB X.K C f)(hl:fs.length<1000)(ry:jt y u)(h:∀s',d8 X aN σ (bM H a (.ins C dx (kY f y fs))) s'->Q () s'):wpAny (model X.prog X.w) A (setAttr (.ref a) f u) Q E s:=by
 obtain⟨mA,O,r,wi,_,ho⟩:=Yq I.mC e;have hz:(fs.map (·.1)).length<=sizeLine:=by rw[aC,bw];omega
 refine ahZ I.kIn O c.sa c.po n.ald c.hd wi hz λh' O' sb=>h _ ?_;have hd:∃o,h'.get? dx=some o:=let⟨o,_,_,e',_⟩:=O'.ns;⟨o,e'⟩
 refine I.Nj (x:=a) (e:=dx) (by rw[e];exact True.intro) (.inr ho) (λb q hb z=>(sb.2 b hb).trans z) hd ?_
 refine⟨by rw[aM O.ne];exact ho,?_,O.ne,O'.obj,_,O'.ns,λg=>?_,λg hg=>?_⟩
 . have:=PJ f y fs;omega
 . show DW ((kY f y fs).lookup g) (if g=f then some u else mA g)
   rw[PN];by_cases q:g=f
   . rw[if_pos q,if_pos q];exact ry
   . rw[if_neg q,if_neg q];exact r g
 . by_cases q:g=f
   . rw[q];exact(Ob f y fs).1
   . refine(Ob f y fs).2 g (wi g λz=>hg ?_);show (if g=f then some u else mA g)=none
     rw[if_neg q];exact z
def d8.made(I:d8 X aN σ H s):d8 X aN σ (bM (bM H s.heap.objs.size (.own (s.heap.objs.size+1))) (s.heap.objs.size+1) (.ins C s.heap.objs.size []))
 {s with heap:=(s.heap.push PySem.W.emptyDict).push (PySem.W.instObj C s.heap.objs.size)}:=by
 have e1:(s.heap.push PySem.W.emptyDict).get? s.heap.objs.size=some PySem.W.emptyDict:=aV s.heap rfl;have e2:((s.heap.push PySem.W.emptyDict).push (PySem.W.instObj C s.heap.objs.size)).get? (s.heap.objs.size+1)=some (PySem.W.instObj C s.heap.objs.size):=by
  have:=aV (s.heap.push PySem.W.emptyDict) (o:=PySem.W.instObj C s.heap.objs.size) rfl;rwa [bT]at this
 have e3:(s.heap.push PySem.W.emptyDict).Ns s.heap.objs.size (λ_=>none):=⟨PySem.W.emptyDict,#[],_,e1,rfl,(λe he=>absurd he (by simp)),λ_=>rfl⟩;have I1:=I.laid (a:=s.heap.objs.size) (o:=.own (s.heap.objs.size+1)) (h':=s.heap.push PySem.W.emptyDict) (t':=s.toks) (λb u q=>aL _ q) (aH _) ⟨_,e1⟩;refine I1.laid (a:=s.heap.objs.size+1) (o:=.ins C s.heap.objs.size []) (t':=s.toks) (λb u q=>aL _ q) (Nat.le_of_eq (bT _ _)) ?_;have ne:s.heap.objs.size≠s.heap.objs.size+1:=cu (jX _);refine⟨by rw[aM ne,aB],bW _,ne,e2,λ_=>none,(Heap.Ns1.of_empty e3).at λo q=>aL _ q,λ_=>True.intro,λy hy=>absurd rfl hy⟩
def ag3{f:Str}(hb:attributeBase e f env (eval e env)=eval e env)(h:wpAny (model prog w) A (eval e env) (λo s₁=>wpAny (model prog w) A (getAttr o f true) Q E s₁) E s):wpAny (model prog w) A (eval (.Attribute e f pos) env) Q E s:=
 Attribute_any_ h (by rw[arm_eval_Attribute,hb])
end
inductive ama(K:Fg)(f:Str)(Q:VK)(x:V)(H:Hp):Prop
 |mk (a C dx:Addr) (fs:List (Str×V)) (v:V) (_:x=.ref a) (_:H a=some (.ins C dx fs)) (_:RJ K C) (_:gB K C f) (_:fs.lookup f=some v) (_:Q v H)
def JL(K:Fg)(ta:TE)(f:Str):TE:=λσ H Q=>ta σ H (ama K f Q)
inductive alh(K:Fg)(f:Str)(y:V)(R:Hp->Prop)(x:V)(H:Hp):Prop
 |mk (a C dx:Addr) (fs:List (Str×V)) (_:x=.ref a) (_:H a=some (.ins C dx fs)) (_:RJ K C) (_:gB K C f) (_:fs.length<1000) (_:R (bM H a (.ins C dx (kY f y fs))))
def akX(K:Fg)(ta tv:TE)(f:Str):TS:=λD σ H=>tv σ H λy H1=>ta σ H1 (alh K f y (D.nx σ))
def aiF(X:Cx)(op:Operator)(rd:V->V->Hp->VK->Prop):Prop:=
 ∀(aN:List (Addr×Obj)) (s:Shared) (σ:St) (H:Hp) (x y:V) (u v:Value) (Q:VK),d8 X aN σ H s->jt x u->jt y v->rd x y H Q->wpAny (model X.prog X.w) X.A (inplaceOp op u v) (EP X aN σ Q) X.xe s
inductive aif(f:Str)(a C:Addr)(R:Hp->Prop)(z:V)(H:Hp):Prop
 |mk (dx:Addr) (fs:List (Str×V)) (_:H a=some (.ins C dx fs)) (_:fs.length<1000) (_:R (bM H a (.ins C dx (kY f z fs))))
inductive al9(K:Fg)(f:Str)(R:Addr->Addr->V->Prop)(x:V)(H:Hp):Prop
 |mk (a C dx:Addr) (fs:List (Str×V)) (v:V) (_:x=.ref a) (_:H a=some (.ins C dx fs)) (_:RJ K C) (_:gB K C f) (_:fs.lookup f=some v) (_:R a C v)
def ahW(K:Fg)(ta tv:TE)(rd:V->V->Hp->VK->Prop)(f:Str):TS:=λD σ H=>ta σ H λx H1=>al9 K f (λa C v=>tv σ H1 λy H2=>rd v y H2 (aif f a C (D.nx σ))) x H1
section
variable{o value:Expr}{f:Str}{ta tv:TE}
def aQ(he:PE X e ta)(hb:attributeBase e f X.env (eval e X.env)=eval e X.env):PE X (.Attribute e f pos) (JL X.K ta f):=by
 intro aN s σ H Q I h;refine ag3 hb (nO (he aN s σ H _ I h) λu s1 ⟨x,H1,I1,rx,a,C,dx,fs,v,ex,ea,c,n,l,q⟩=>?_);subst ex;obtain rfl:u=Value.ref a:=rx;exact Sx I1 ea c n l λu' s2 I2 ru=>⟨v,H1,I2,ru,q⟩
def eX(ha:PE X o ta)(hv:PE X value tv)(hs:swapsWith value (some (.Attribute o f pos')) pos.line X.env=pure false):PS X (.Assign [.Attribute o f pos'] value pos) (akX X.K ta tv f):=by
 intro aN s σ H D I h;refine plainObj_wpAny_Assign_Attribute (nO (hv aN s σ H _ I h) λu s1 ⟨y,H1,I1,ry,q⟩=>nO (ha aN s1 σ H1 _ I1 q) λov s2 ⟨x,H2,I2,rx,a,C,dx,fs,ex,ea,c,n,l,q2⟩=>?_) hs;subst ex;obtain rfl:ov=Value.ref a:=rx;exact Ul I2 ea c n l ry λs3 I3=>⟨σ,_,I3,q2⟩
def ph{op:Operator}{rd:V->V->Hp->VK->Prop}(ha:PE X o ta)(hv:PE X value tv)(hop:aiF X op rd):PS X (.AugAssign (.Attribute o f tpos) op value pos) (ahW X.K ta tv rd f):=by
 intro aN s σ H D I h;refine wpAny_AugAssign_AttributeAny (nO (ha aN s σ H _ I h) λov s1 ⟨x,H1,I1,rx,a,C,dx,fs,v,ex,ea,c,n,l,q⟩=>?_);subst ex;obtain rfl:ov=Value.ref a:=rx;refine Sx I1 ea c n l λu s2 I2 ru=>nO (hv aN s2 σ H1 _ I2 q) λw3 s3 ⟨y,H2,I3,ry,q3⟩=>nO (hop aN s3 σ H2 v y u w3 _ I3 ru ry q3) λw4 s4 ⟨z,H3,I4,rz,dx',fs',ea',l',q4⟩=>?_;exact Ul I4 ea' c n l' rz λs5 I5=>⟨σ,_,I5,q4⟩
inductive alN(x:V)(y:V)(H:Hp)(Q:VK):Prop
 |mk (i:_) (j:_) (_:x=.int i) (_:y=.int j) (_:Q (.int (i+j)) H)
inductive alW(x:V)(y:V)(H:Hp)(Q:VK):Prop
 |mk (i:_) (j:_) (_:x=.int i) (_:y=.int j) (_:Q (.int (i-j)) H)
def Hh:aiF X .Add alN:=by
 rintro aN s σ H x y u v Q I rx ry ⟨i,j,rfl,rfl,q⟩;obtain⟨t,rfl⟩:=(show ∃t,u=Value.int i t from rx);obtain⟨t',rfl⟩:=(show ∃t',v=Value.int j t' from ry);exact PyProof.Rows.iadd_int ⟨.int (i+j),H,I.Dr _,⟨_,rfl⟩,q⟩
def Yp:aiF X .Sub alW:=by
 rintro aN s σ H x y u v Q I rx ry ⟨i,j,rfl,rfl,q⟩;obtain⟨t,rfl⟩:=(show ∃t,u=Value.int i t from rx);obtain⟨t',rfl⟩:=(show ∃t',v=Value.int j t' from ry);exact PyProof.Rows.isub_int ⟨.int (i-j),H,I.Dr _,⟨_,rfl⟩,q⟩
def aiu{pl:Sem Bool}{m:Str}{args:List Expr}(he:PE X e te)(I:d8 X aN σ H s)(h:te σ H λx H1=>∃a C dx fs g,x=.ref a/\H1 a=some (.ins C dx fs)/\RJ X.K C/\adX X.K C m g/\fs.lookup m=none /\
 ∀s1,d8 X aN σ H1 s1->wpAny (model X.prog X.w) X.A (callWith pos (.ref g) [.ref a] (backTo pos (starEach args X.env)) (backToKw pos (keywordEach [] X.env))) Q X.xe s1)(ht:eval (.Call (.Attribute e m apos) args [] pos) X.env=(do
 let ov <-eval e X.env
 standAt apos.atName
 let (f,first) <-holding [ov] (getMethod ov m pl)
 callWith pos f first (backTo pos (starEach args X.env)) (backToKw pos (keywordEach [] X.env)))):
 wpAny (model X.prog X.w) X.A (eval (.Call (.Attribute e m apos) args [] pos) X.env) Q X.xe s:=by
 refine pU (pl:=pl) (nO (he aN s σ H _ I h) λu s1 ⟨x,H1,I1,rx,a,C,dx,fs,g,ex,ea,c,k,l,q⟩=>?_) ht;subst ex;obtain rfl:u=Value.ref a:=rx;exact Ku I1 ea c k l (q s1 I1)
end
structure pB(k:Nat)(A:Around):Prop where
 hd:A.handled=none
 dp:A.depth+3*k+5<recursionLimit
 un:A.units+16*k+200<cLine
def pB.mono{k:Nat}(r:pB k A)(h:j<=k):pB j A:=⟨r.hd,by have:=r.dp;omega,by have:=r.un;omega⟩
def pB.lw{k:Nat}(r:pB k A)(h:j<=k:=by decide):pB j A:=r.mono h
def pB.deeper{k:Nat}{A:Around}(r:pB (k+1) A)(env:Env):pB k (A.deeper env):=
 ⟨r.hd,by have:=r.dp;show A.depth+1+3*k+5<_;omega,by have:=r.un;show A.units+3+16*k+200<_;omega⟩
def acb:(A.under (.builtin "type.__call__" ⟨.ref C::us,kw⟩)).depth=A.depth+1:=by
 first|rfl|simp[Around.under,Code.weight,Code.isCreation,Code.isGuard,Code.isCaller,Code.frames,Code.isFrame,guardIds]
def acd:(A.under (.builtin "type.__call__" ⟨.ref C::us,kw⟩)).units=A.units+1:=by
 first|rfl|simp[Around.under,Code.cUnits,Code.frames,Code.isFrame]
def pB.ajm{k:Nat}(r:pB (k+1) A)(C:Addr)(us:List Value)(kw:List (Str×Value)):pB k (A.under (.builtin "type.__call__" ⟨.ref C::us,kw⟩)):=
 ⟨r.hd,by have:=r.dp;rw[acb];omega,by have:=r.un;rw[acd];omega⟩
def pB.depth{k:Nat}{A:Around}(r:pB k A):A.depth<recursionLimit:=by have:=r.dp;omega
def pB.units{k:Nat}{A:Around}(r:pB k A):A.units+64<cLine:=by have:=r.un;omega
def oO:TA:=λ_ H Q=>Q [] H
def fG(ta:TE)(tr:TA):TA:=λσ H Q=>ta σ H λx H1=>tr σ H1 λxs H2=>Q (x::xs) H2
section
variable{t:TA}
def aK:PA X [] oO:=λ_ _ _ _ H Q I h=>gZ ⟨[],H,I,.nil,h⟩
def aa(ha:PE X e te)(hr:PA X es t)(hs:starEach (e::es) X.env=(false,eval e X.env)::starEach es X.env:=by rfl):PA X (e::es) (fG te t):=by
 intro pos aN s σ H Q I h;rw[hs];show wpAny _ _ (spliced ((false,eval e X.env)::backTo pos (starEach es X.env))) _ _ s
 refine gJ (nO (ha aN s σ H _ I h) λu s1 ⟨x,H1,I1,r1,q1⟩=>?_);exact nO (hr pos aN s1 σ H1 _ I1 q1) λus s2 ⟨xs,H2,I2,r2,q2⟩=>⟨x::xs,H2,I2,.cons r1 r2,q2⟩
def ak8(t:TA):TE:=λσ H Q=>t σ H λxs H1=>xs.length<=sizeLine/\∀p,H1 p=none->Q (.ref p) (bM H1 p (.cM xs))
def jT(h:PA X es t):PE X (.List es pos) (ak8 t):=by
 intro aN s σ H Q I hq;refine wpAny_List_spliced (nO (h pos aN s σ H _ I hq) λus s1 ⟨xs,H1,I1,r,z,q⟩=>⟨by rw[<-r.length];exact z,?_⟩)
 have hf:H1 s1.heap.objs.size=none:=I1.mC.fresh (aH _);refine⟨.ref s1.heap.objs.size,bM H1 s1.heap.objs.size (.cM xs),I1.laid (t':=s1.toks) (λb u e=>aL _ e) (aH _) ?_,rfl,q _ hf⟩;exact⟨z,us,0,r,aV _ rfl⟩
end
abbrev Sp:= List V->Hp->VK->XK->Prop
abbrev CXT:= List Env->Hp->Shared->XK->Value->Shared->Prop
structure abz(P:Program)(w:World)(K:Fg)(mg:Str->Option Value)(base:Heap)(A:Around)(fO:List Env)(s:Shared)(H:Hp):Prop where
 frames:A.frames=some fO
 S8:Mod K mg base
 bs:∀b o,base.get? b=some o->s.heap.get? b=some o/\H b=none
 bsz:base.objs.size<=s.heap.objs.size
 Ks:s.heap.FunFrames base fO
 frf:∀b∈Nm fO,H b=none
 mC:GK P w H s.heap
 bare:AllBare s.gens
inductive CE(fO:List Env)(P:Program)(w:World)(H:Hp)(s:Shared)(Q:VK)(u:Value)(s':Shared):Prop
 |mk (v:_) (H':_) (_:s'.os=s.os) (_:AllBare s'.gens) (_:Un (Nm fO) [] H H' s.heap s'.heap) (_:GK P w H' s'.heap) (_:jt v u) (_:Q v H')
def CR(CX:CXT)(fO:List Env)(P:Program)(w:World)(H:Hp)(s:Shared)(Q:VK)(E:XK)(r:Result)(s':Shared):Prop:=
 match r with
 |.ok (.ret u)=>CE fO P w H s Q u s'
 |.ok _=>False
 |.error e=>CX fO H s E e s'
structure dR(P:Program)(w:World)(K:Fg)(mg:Str->Option Value)(base:Heap)(CX:CXT)(k:Nat)(f:Addr)(fd:FuncData)(ps:List Str)(sp:Sp):Prop where
 len:∀vs H Q E,sp vs H Q E->vs.length=ps.length
 run:∀(A:Around)(fO:List Env)(s:Shared)(H:Hp)(args:Args)(us:List Value)(vs:List V)(Q:VK)(E:XK),pB k A->abz P w K mg base A fO s H->BindsTo s fd args (ps.zip us)->ie vs us->sp vs H Q E ->
  codeAny (model P w) A (.call (.ref f) args) (CR CX fO P w H s Q E) s
def abz.ajm{fO:List Env}(e:abz P w K mg base A fO s H)(C:Addr)(us:List Value)(kw:List (Str×Value)):
 abz P w K mg base (A.under (.builtin "type.__call__" ⟨.ref C::us,kw⟩)) fO s H:=⟨by first|exact e.frames|(simpa [Around.under,Code.envs,Code.isFrame,pushEnvs] using e.frames),e.S8,e.bs,e.bsz,e.Ks,e.frf,e.mC,e.bare⟩
section
variable{s':Shared}
def d8.akv(I:d8 X aN σ H s):abz X.prog X.w X.K X.mg X.base X.A X.stack s H:=
 ⟨I.ok.frames,I.ok.S8,I.bs,cG I.ok.bsz I.sz,I.stack,I.ZD,I.mC,I.bare⟩
def d8.aap{Q:VK}(I:d8 X aN σ H s)(h:CE X.stack X.prog X.w H s Q u s'):EP X aN σ Q u s':=by
 obtain⟨v,H',os,bare,un,mC,r,q⟩:=h;obtain⟨hh,g,d,t,os'⟩:=s';obtain rfl:os'=s.os:=os;exact⟨v,H',I.call (h':=hh) (g':=g) (d':=d) (t':=t) (ch:=[]) un mC bare (λb z=>absurd z (by simp)),r,q⟩
end
def uc(sp:Sp)(dvs:List V)(E:XK)(t:TA):TE:=λσ H Q=>t σ H λvs H1=>sp (vs++dvs) H1 Q E
inductive ak3(C:Addr)(m:Str)(x:V)(H:Hp)(R:Prop):Prop
 |mk (a dx:Addr) (fs:List (Str×V)) (_:x=.ref a) (_:H a=some (.ins C dx fs)) (_:fs.lookup m=none) (_:R)
def Uy(C:Addr)(m:Str)(sp:Sp)(dvs:List V)(E:XK)(ta:TE)(t:TA):TE:=λσ H Q=>ta σ H λx H1=>ak3 C m x H1 (t σ H1 λvs H2=>sp (x::(vs++dvs)) H2 Q E)
def Xa(C:Addr)(sp:Sp)(dvs:List V)(E:XK)(t:TA):TE:=λσ H Q=>t σ H λvs H1=>∀x dx,H1 x=none->H1 dx=none->dx≠x ->
 sp (.ref x::(vs++dvs)) (bM (bM H1 dx (.own x)) x (.ins C dx [])) (λv H2=>v=.non/\Q (.ref x) H2) E
def yO(K:Fg)(fd:FuncData)(ps:List Str)(ds:List Value):Prop:=
 ∀(s:Shared)(us:List Value),K.In s.heap->(us++ds).length=ps.length->BindsTo s fd ⟨us,[]⟩ (ps.zip (us++ds))
def yO.all(h:∀us:List Value,us.length=ps.length->bindArgs fd ⟨us,[]⟩=pure (ps.zip us)):yO K fd ps []:=λs us _ hl=>by
 rw[eQ]at hl ⊢;exact .of_eq (h us hl)
def uF(CX:CXT)(X:Cx)(E:XK):Prop:=∀(aN:List (Addr×Obj)) (σ:St) (H:Hp) (s:Shared) (e:Value) (s':Shared),d8 X aN σ H s->CX X.stack H s E e s'->X.xe e s'
section
variable{CX:CXT}{k:Nat}{sp:Sp}{dvs:List V}{ds:List Value}{E:XK}{m:Str}{o:Expr}{ta:TE}{t:TA}
def Uc{Q:VK}(F:dR X.prog X.w X.K X.mg X.base CX k f fd ps sp)(hr:pB k X.A)(hb:yO X.K fd ps ds)(hd:ie dvs ds)(hx:uF CX X E)(I:d8 X aN σ H s)(r:ie vs us)(h:sp (vs++dvs) H Q E):wpAny (model X.prog X.w) X.A (call (.ref f) us) (EP X aN σ Q) X.xe s:=by
 have r2:ie (vs++dvs) (us++ds):=r.append hd;have hl:(us++ds).length=ps.length:=by rw[<-r2.length];exact F.len _ _ _ _ h
 refine wpAny_call (iR (F.run X.A X.stack s H ⟨us,[]⟩ (us++ds) (vs++dvs) Q E hr I.akv (hb s us I.kIn hl) r2 h) λr s' hq=>?_)
 cases r with
 |error e=>exact hx aN σ H s e s' I hq
 |ok fl=>
  cases fl with
  |ret u=>exact I.aap hq
  |next=>exact False.elim hq
  |brk=>exact False.elim hq
  |cont=>exact False.elim hq
def ahJ(F:dR X.prog X.w X.K X.mg X.base CX k f fd ps sp)(hr:pB k X.A)(hg:Gl X x)(hm:X.mg x=some (.ref f))(hk:PySem.W.keepIn X.K (.ref f)=true)(hb:yO X.K fd ps ds)(hd:ie dvs ds)(hx:uF CX X E)(ha:PA X (e::es) t)(hdb:(x==("__debug__":Str))=false:=by decide)(he:starEach (e::es) X.env=(false,eval e X.env)::starEach es X.env:=by rfl)(hpl:(backTo pos (starEach es X.env)).any (·.1)=false:=by rfl):
 PE X (.Call (.Name x p) (e::es) [] pos) (uc sp dvs E t):=by
 intro aN s σ H Q I h;refine fZ (Ed I hg hm ?_ hdb);refine oN (h₀:=X.base) I.ok.S8.kin hk (nO (ha pos aN s σ H _ I h) λus s1 ⟨vs,H1,I1,r,q⟩=>⟨I1.kIn,?_⟩) he hpl;exact Uc F hr hb hd hx I1 r q
def af3(F:dR X.prog X.w X.K X.mg X.base CX k f fd ps sp)(hr:pB k X.A)(hg:Gl X x)(hm:X.mg x=some (.ref f))(hk:PySem.W.keepIn X.K (.ref f)=true)(hb:yO X.K fd ps ds)(hd:ie dvs ds)(hx:uF CX X E)(hdb:(x==("__debug__":Str))=false:=by decide):PE X (.Call (.Name x p) [] [] pos) (uc sp dvs E oO):=by
 intro aN s σ H Q I h;refine fZ (Ed I hg hm ?_ hdb);exact qZ I.kIn hk (Uc (us:=[]) F hr hb hd hx I .nil h)
def ahO{pl:Sem Bool}(he:PE X o ta)(c:RJ X.K C)(hm:adX X.K C m f)(F:dR X.prog X.w X.K X.mg X.base CX k f fd ps sp)(hr:pB k X.A)(hb:yO X.K fd ps ds)(hd:ie dvs ds)(hx:uF CX X E)(ha:PA X (e::es) t)(hst:starEach (e::es) X.env=(false,eval e X.env)::starEach es X.env:=by rfl)(hpl:(backTo pos (starEach es X.env)).any (·.1)=false:=by rfl)(ht:eval (.Call (.Attribute o m apos) (e::es) [] pos) X.env=(do
 let ov <-eval o X.env
 standAt apos.atName
 let (f,first) <-holding [ov] (getMethod ov m pl)
 callWith pos f first (backTo pos (starEach (e::es) X.env)) (backToKw pos (keywordEach [] X.env))):=by rfl):
 PE X (.Call (.Attribute o m apos) (e::es) [] pos) (Uy C m sp dvs E ta t):=by
 intro aN s σ H Q I h;refine pU (pl:=pl) (nO (he aN s σ H _ I h) λu s1 ⟨x,H1,I1,rx,a,dx,fs,ex,ea,l,q⟩=>?_) ht;subst ex;obtain rfl:u=Value.ref a:=rx;refine Ku I1 ea c hm l ?_;refine oN (first:=[.ref a]) (h₀:=X.base) I.ok.S8.kin hm.kp (nO (ha pos aN s1 σ H1 _ I1 q) λus s2 ⟨vs,H2,I2,r,q2⟩=>⟨I2.kIn,?_⟩) hst hpl
 exact Uc (us:=.ref a::us) (vs:=.ref a::vs) F hr hb hd hx I2 (.cons rfl r) q2
def af6{pl:Sem Bool}(he:PE X o ta)(c:RJ X.K C)(hm:adX X.K C m f)(F:dR X.prog X.w X.K X.mg X.base CX k f fd ps sp)(hr:pB k X.A)(hb:yO X.K fd ps ds)(hd:ie dvs ds)(hx:uF CX X E)(ht:eval (.Call (.Attribute o m apos) [] [] pos) X.env=(do
 let ov <-eval o X.env
 standAt apos.atName
 let (f,first) <-holding [ov] (getMethod ov m pl)
 callWith pos f first (backTo pos (starEach [] X.env)) (backToKw pos (keywordEach [] X.env))):=by rfl):
 PE X (.Call (.Attribute o m apos) [] [] pos) (Uy C m sp dvs E ta oO):=by
 intro aN s σ H Q I h;refine pU (pl:=pl) (nO (he aN s σ H _ I h) λu s1 ⟨x,H1,I1,rx,a,dx,fs,ex,ea,l,q⟩=>?_) ht;subst ex;obtain rfl:u=Value.ref a:=rx;refine Ku I1 ea c hm l ?_;exact qZ (first:=[.ref a]) I1.kIn hm.kp (Uc (us:=[.ref a]) (vs:=[.ref a]) F hr hb hd hx I1 (.cons rfl .nil) q)
structure Mk(K:Fg)(C f:Addr):Prop where
 akJ:PySem.W.makesIn K C=true
 init:PySem.W.findIn K (.ref C) "__init__"=some (some (.ref f))
 fn:PySem.W.isFn K (.ref f)=true
 kp:PySem.W.keepIn K (.ref C)=true
def aba{Q:VK}(M:Mk X.K C f)(F:dR X.prog X.w X.K X.mg X.base CX k f fd ps sp)(hr:pB (k+1) X.A)(hb:yO X.K fd ps ds)(hd:ie dvs ds)(hx:uF CX X E)(I:d8 X aN σ H s)(r:ie vs us)(h:∀x dx,H x=none->H dx=none->dx≠x->sp (.ref x::(vs++dvs)) (bM (bM H dx (.own x)) x (.ins C dx [])) (λv H2=>v=.non/\Q (.ref x) H2) E):
 wpAny (model X.prog X.w) X.A (call (.ref C) us) (EP X aN σ Q) X.xe s:=by
 have hq:=h (s.heap.objs.size+1) s.heap.objs.size (I.mC.fresh (mY _)) (I.mC.fresh (aH _)) (cu (jX _));have I2:=d8.made (C:=C) I;have r2:ie (V.ref (s.heap.objs.size+1)::(vs++dvs)) (Value.ref (s.heap.objs.size+1)::(us++ds)):=.cons rfl (r.append hd);have hl:(Value.ref (s.heap.objs.size+1)::us++ds).length=ps.length:=by
  have e:=r2.length;rw[F.len _ _ _ _ hq]at e;exact e.symm
 refine wpAny_call (afS (f:=f) I.kIn M.akJ M.init (je.mp M.fn) (iR (F.run _ X.stack _ _ ⟨Value.ref (s.heap.objs.size+1)::us,[]⟩ (Value.ref (s.heap.objs.size+1)::(us++ds)) _ _ E (hr.ajm C us [])
  (I2.akv.ajm C us []) (hb _ (Value.ref (s.heap.objs.size+1)::us) I2.kIn hl) r2 hq) λr s' hq'=>?_))
 cases r with
 |error e=>exact hx aN σ _ _ e s' I2 hq'
 |ok fl=>
  cases fl with
  |ret u=>
   obtain⟨v,H',I3,rv,ev,q3⟩:=I2.aap hq';subst ev;exact⟨rv,⟨V.ref (s.heap.objs.size+1),H',I3,rfl,q3⟩⟩
  |next=>exact False.elim hq'
  |brk=>exact False.elim hq'
  |cont=>exact False.elim hq'
def ahN(M:Mk X.K C f)(F:dR X.prog X.w X.K X.mg X.base CX k f fd ps sp)(hr:pB (k+1) X.A)(hg:Gl X x)(hm:X.mg x=some (.ref C))(hb:yO X.K fd ps ds)(hd:ie dvs ds)(hx:uF CX X E)(ha:PA X (e::es) t)(hdb:(x==("__debug__":Str))=false:=by decide)(he:starEach (e::es) X.env=(false,eval e X.env)::starEach es X.env:=by rfl)(hpl:(backTo pos (starEach es X.env)).any (·.1)=false:=by rfl):
 PE X (.Call (.Name x p) (e::es) [] pos) (Xa C sp dvs E t):=by
 intro aN s σ H Q I h;refine fZ (Ed I hg hm ?_ hdb);refine oN (h₀:=X.base) I.ok.S8.kin M.kp (nO (ha pos aN s σ H _ I h) λus s1 ⟨vs,H1,I1,r,q⟩=>⟨I1.kIn,?_⟩) he hpl;exact aba M F hr hb hd hx I1 r q
def af5(M:Mk X.K C f)(F:dR X.prog X.w X.K X.mg X.base CX k f fd ps sp)(hr:pB (k+1) X.A)(hg:Gl X x)(hm:X.mg x=some (.ref C))(hb:yO X.K fd ps ds)(hd:ie dvs ds)(hx:uF CX X E)(hdb:(x==("__debug__":Str))=false:=by decide):PE X (.Call (.Name x p) [] [] pos) (Xa C sp dvs E oO):=by
 intro aN s σ H Q I h;refine fZ (Ed I hg hm ?_ hdb);exact qZ I.kIn M.kp (aba (us:=[]) M F hr hb hd hx I .nil h)
end
structure bz(N P:List Str)(sc:Scope):Prop where
 kind:sc.kind=.function
 co:sc.isCoroutine=false
 gen:sc.isGenerator=false
 nd:N.Nodup
 pre:N.take P.length=P
 par:∀x∈P,sc.names.lookup x=some .local\/sc.names.lookup x=some .cell
 ajr:∀y∈sc.names,y.2≠.free
def cU{P:List Str}(a:sc.kind=.function:=by rfl)(b:sc.isCoroutine=false:=by rfl)(c:sc.isGenerator=false:=by rfl)(d:N.Nodup:=by decide +kernel)(e:N.take P.length=P:=by rfl)(f:∀x∈P,sc.names.lookup x=some .local\/sc.names.lookup x=some .cell:=by decide +kernel)(g:∀y∈sc.names,y.2≠.free:=by decide +kernel):bz N P sc:=⟨a,b,c,d,e,f,g⟩
theorem Ws{kindOf:Str->Option NameKind}{x:Str}:∀{JM:List (Str×Value)} {m:Str->Option Value},(∀v,(x,v)∉JM)->bindL kindOf JM m x=m x
 |[],_,_=>rfl
 |(n,v)::r,m,h=>by
  unfold bindL;rw[Ws λw hw=>h w (cJ _ hw)];split
  . have:x≠n:=by rintro rfl;exact h v ig
    simp[this]
  . rfl
theorem Wo{kindOf:Str->Option NameKind}{x:Str}:∀{JM:List (Str×Value)} {m:Str->Option Value},(∀v,(x,v)∉JM)->bindC kindOf JM m x=m x
 |[],_,_=>rfl
 |(n,v)::r,m,h=>by
  unfold bindC;rw[Wo λw hw=>h w (cJ _ hw)];split
  . rfl
  . have:x≠n:=by rintro rfl;exact h v ig
    simp[this]
theorem Wq{kindOf:Str->Option NameKind}{x:Str}{v:Value}:∀{P:List Str}{vs:List Value}{i:Nat}{m:Str->Option Value},P.Nodup->P[i]? = some x->vs[i]? = some v->kindOf x=some .local ->
 bindL kindOf (P.zip vs) m x=some v
 |[],_,_,_,_,h,_,_=>by simp at h
 |_::_,[],_,_,_,_,h,_=>by simp at h
 |p::P,w::vs,0,m,nd,h1,h2,hk=>by
  simp at h1 h2;subst h1;subst h2;show bindL kindOf ((p,w)::P.zip vs) m p=_
  unfold bindL;rw[Ws λv hv=>(dZ.mp nd).1 (List.of_mem_zip hv).1,if_pos hk];simp
 |p::P,w::vs,i+1,m,nd,h1,h2,hk=>by
  show bindL kindOf ((p,w)::P.zip vs) m x=_
  unfold bindL;exact Wq (i:=i) (dZ.mp nd).2 (by simpa using h1) (by simpa using h2) hk
theorem Wn{kindOf:Str->Option NameKind}{x:Str}{v:Value}:∀{P:List Str}{vs:List Value}{i:Nat}{m:Str->Option Value},P.Nodup->P[i]? = some x->vs[i]? = some v->kindOf x≠some .local ->
 bindC kindOf (P.zip vs) m x=some v
 |[],_,_,_,_,h,_,_=>by simp at h
 |_::_,[],_,_,_,_,h,_=>by simp at h
 |p::P,w::vs,0,m,nd,h1,h2,hk=>by
  simp at h1 h2;subst h1;subst h2;show bindC kindOf ((p,w)::P.zip vs) m p=_
  unfold bindC;rw[Wo λv hv=>(dZ.mp nd).1 (List.of_mem_zip hv).1,if_neg hk];simp
 |p::P,w::vs,i+1,m,nd,h1,h2,hk=>by
  show bindC kindOf ((p,w)::P.zip vs) m x=_
  unfold bindC;exact Wn (i:=i) (dZ.mp nd).2 (by simpa using h1) (by simpa using h2) hk
def start(N:List Str)(vs:List V):St:=vs.map some++List.replicate (N.length-vs.length) none
def N5(CX:CXT)(P:Program)(w:World)(K:Fg)(mg:Str->Option Value)(base:Heap)(N:List Str)(qual:Str)(scope:Scope)(f:Addr)(cd:Value)(A:Around)(fO:List Env)(s:Shared)(H:Hp)(E:XK):Cx where
 prog:=P
 w:=w
 K:=K
 mg:=mg
 base:=base
 A:=A.deeper (envOfC qual scope s.heap.objs.size f cd)
 N:=N
 s₀:=s
 H₀:=H
 env:=envOfC qual scope s.heap.objs.size f cd
 fO:=fO
 stack:=envOfC qual scope s.heap.objs.size f cd::fO
 ex:=[]
 calm:=true
 fn:=λ_=>true
 pn:=[]
 xe:=λe s'=>wpAny (model P w) (A.deeper (envOfC qual scope s.heap.objs.size f cd)) (leaving (envOfC qual scope s.heap.objs.size f cd) e) (λ_ s''=>CX fO H s E e s'') (λe' s''=>CX fO H s E e' s'') s'
def aay(h:sc.names.lookup x=some .cell):∃c,(cellsFrom n sc.names []).lookup x=some c:=by
 have q:=PySem.W.cellsFrom_some sc.names n [] (.inl h);exact Option.isSome_iff_exists.mp q
def aer{CX:CXT}{qual:Str}{cd:Value}{fO:List Env}{E:XK}(S:bz N ps scope)(hd:A.handled=none)(e0:abz P w K mg base A fO s H)(hl:vs.length=ps.length)(r:ie vs us)(x:InCallC s s.heap.objs.size (bindL (envOfC qual scope s.heap.objs.size f cd).kindOf (ps.zip us) λ_=>none) (cellsFrom (s.heap.objs.size+1) scope.names []) (bindC (envOfC qual scope s.heap.objs.size f cd).kindOf (ps.zip us) λ_=>none) s1):
 d8 (N5 CX P w K mg base N qual scope f cd A fO s H E) [] (start N vs) H s1:=by
 have hpl:ps.length<=N.length:=by have:=j0 List.length S.pre;rw[aY]at this;omega
 obtain⟨h1,tk,rfl,hk⟩:=x.done;have noA:∀b:Addr,b∉(N5 CX P w K mg base N qual scope f cd A fO s H E).ex:=λb z=>absurd (show b∈([]:List Addr) from z) (by simp);refine⟨⟨e0.S8,S.kind,rfl,rfl,aH _,λy z c h1 h2=>?_,λy hy=>?_,λy c _ h=>?_,λ_=>hd,Around.frames_deeper e0.frames,.inr ⟨rfl,rfl⟩,λb z=>absurd z (noA b),e0.bs,e0.bsz,λb _ _=>noA b,λb z=>absurd z (noA b),e0.Ks,e0.frf⟩,
  rfl,e0.bare,Un.wK hk,⟨_,x.toInCall.ns,λi y v h1 h2 h3=>?_⟩,λy c h=>⟨_,x.cell y c h⟩,e0.mC.fresh (aH _),λy c h=>?_,λp hp=>absurd (show p∈([]:List (Addr×Obj)) from hp) (by simp),e0.mC.wK hk,?_⟩
 . exact name_of_addr x.apart (dq h1) (dq h2)
 . have hy:scope.names.lookup y=some .cell\/scope.names.lookup y=some .free:=hy;rcases hy with hy|hy
   . exact aay hy
   . exact absurd rfl (S.ajr _ (dq hy))
 . exact kJ (x.above y c (dq h))
 . have hi:i<vs.length:=by
    unfold start at h2;by_cases hi:i<vs.length
    . exact hi
    . rw[List.getElem?_append_right (by simpa using hi)]at h2;rw[List.getElem?_replicate]at h2;split at h2<;>cases h2
   have ha:vs[i]? = some v:=by
    unfold start at h2;rw[List.getElem?_append_left (by simpa using hi),bA]at h2
    cases e:vs[i]? with
    |none=>rw[e]at h2;cases h2
    |some a=>rw[e]at h2;cases h2;rfl
   obtain⟨u,hu,rv⟩:=r.get ha;have hp:ps[i]? = some y:=by
    rw[<-S.pre,List.getElem?_take_of_lt (by omega)];exact h1
   have ndP:ps.Nodup:=by rw[<-S.pre];exact S.nd.sublist (List.take_sublist _ _)
   refine⟨u,rv,?_⟩;rcases S.par y (cD hp) with k|k
   . exact .inl ⟨k,Wq ndP hp hu k⟩
   . obtain⟨c,e⟩:=aay (n:=s.heap.objs.size+1) k;refine .inr ⟨.inl k,c,e,?_⟩;have q:=x.cell y c e;rw[Wn ndP hp hu (by show scope.names.lookup y≠_;rw[k];decide)]at q
     exact q
 . exact e0.mC.fresh (kJ (x.above y c (dq h)))
 . unfold start;show _=N.length
   rw[aF,aC,List.length_replicate];omega
def air{CX:CXT}{k:Nat}{name qual:Str}{params:Arguments}{body:List Stmt}{dV kV doc pm wU ct oc:Value}{an od:Option Addr}{osl:Array (Option Value)}{sp:Sp}(lk:K.lookup f=some ⟨oc,od,.func (PySem.W.fnOf name qual params body scope dV kV doc pm an wU ct),osl⟩)(hcd:PySem.W.codeIn K wU qual=true)(S:bz N ps scope)(len:∀vs H Q E,sp vs H Q E->vs.length=ps.length)(hbody:∀(A:Around)(fO:List Env)(s:Shared)(H:Hp)(vs:List V)(Q:VK)(E:XK),pB k (A.deeper (envOfC qual scope s.heap.objs.size f wU))->sp vs H Q E ->
 ∃t,Z5 (N5 CX P w K mg base N qual scope f wU A fO s H E) body t/\t {nx:=λ_ H'=>Q .non H',rt:=Q} (start N vs) H):
 dR P w K mg base CX (k+1) f (PySem.W.fnOf name qual params body scope dV kV doc pm an wU ct) ps sp:=by
 refine⟨len,λA fO s H args us vs Q E hr e0 hb r hsp=>?_⟩;have hl:=len _ _ _ _ hsp;have KX:K.In s.heap:=e0.S8.kin.keeps λb o e=>(e0.bs b o e).1;have lim:s.heap.NoLimit:=e0.S8.nolimit.keeps λb o e=>(e0.bs b o e).1;have hkind:∀y∈ps.zip us,scope.names.lookup y.1=some .local\/(scope.names.lookup y.1=some .cell/\((cellsFrom (s.heap.objs.size+1) scope.names []).lookup y.1).isSome=true):=λ⟨n,v⟩ hy=>by
  rcases S.par n (List.of_mem_zip hy).1 with q|q
  . exact .inl q
  . exact .inr ⟨q,PySem.W.cellsFrom_some _ _ _ (.inl q)⟩
 refine codeAny_call_function hr.depth (KX _ _ lk) rfl S.co S.gen rfl (PySem.W.codeRec_of KX hcd) (hb _ _ _ _ ?_);refine wpAny_newFunctionEnv_cells S.kind hkind λenv he s1 x=>?_;subst he;refine⟨lim.keeps x.toInCall.keep,codeAny_func ?_⟩;obtain⟨t,ht,hq⟩:=hbody A fO s H vs Q E (hr.deeper _) hsp;have I:d8 (N5 CX P w K mg base N qual scope f wU A fO s H E) [] (start N vs) H s1:=aer S hr.hd e0 hl r x;refine dj (ht [] s1 (start N vs) H _ I hq) (λfl s' hs=>?_) λe s' hs=>hs;have fin:∀{σ':St}{H':Hp}{v:V}{u:Value},d8 (N5 CX P w K mg base N qual scope f wU A fO s H E) [] σ' H' s'->jt v u->Q v H'->CE fO P w H s Q u s':=
  fun {σ' H' v u} J rv q=>⟨v,H',J.os,J.bare,J.base,J.mC,rv,q⟩
 cases fl with
 |ret u=>
  obtain⟨v,σ',H',J,rv,q⟩:=hs;exact fin J rv q
 |next=>
  obtain⟨σ',H',J,q⟩:=hs;exact fin (v:=V.non) (u:=Value.none) J rfl q
 |brk=>
  obtain⟨_,_,_,q⟩:=hs;exact False.elim q
 |cont=>
  obtain⟨_,_,_,q⟩:=hs;exact False.elim q
end L2
variable{CX:L2.CXT}{sp:L2.Sp}
namespace L2
open PySem PySem.Spec PyProof.Rows
section
variable{t:TA}{id T:String}{r:List V->Hp->VK->Prop}
def tCB(r:List V->Hp->VK->Prop)(t:TA):TE:=λσ H Q=>t σ H λvs H1=>r vs H1 Q
def bV(hc:Lj X (.builtin id) r)(hg:Gl X x)(hm:X.mg x=none)(hv:bootBuiltins x=some (.builtin id))(ha:PA X (e::es) t)(hn:x≠"__name__":=by decide)(hdb:(x==("__debug__":Str))=false:=by decide)(he:starEach (e::es) X.env=(false,eval e X.env)::starEach es X.env:=by rfl)(hpl:(backTo pos (starEach es X.env)).any (·.1)=false:=by rfl):PE X (.Call (.Name x p) (e::es) [] pos) (tCB r t):=by
 intro aN s σ H Q I h;refine fZ (Kv I hg hm hv ?_ hn hdb);exact PyProof.Rows.callWith_builtin1 (nO (ha pos aN s σ H _ I h) λus s1 ⟨vs,H1,I1,r1,q1⟩=>hc aN s1 σ H1 vs us Q I1 r1 q1) he hpl
end
end L2
namespace HT
open PySem PyProof.Rows
def uX(n d:Nat):Option Int->Nat
 |none=>d
 |some v=>if v<0 then (v+(n:Int)).toNat else min v.toNat n
def Jc(n d k:Nat):uX n d (some (k:Int))=min k n:=by
 show (if (k:Int)<0 then ((k:Int)+(n:Int)).toNat else min (k:Int).toNat n)=min k n
 rw[if_neg (by omega),cI]
def ajG(n d:Nat)(hd:d<=n)(o:Option Int):uX n d o<=n:=by
 cases o with
 |none=>exact hd
 |some v=>
  show (if v<0 then (v+(n:Int)).toNat else min v.toNat n)<=n
  by_cases hv:v<0
  . rw[if_pos hv];omega
  . rw[if_neg hv];exact jr _ _
def ac5(v:Int)(n d:Nat):(if v<0 then max (v+(n:Int)) 0 else min v (n:Int))=((uX n d (some v):Nat):Int):=by
 show (if v<0 then max (v+(n:Int)) 0 else min v (n:Int))=(((if v<0 then (v+(n:Int)).toNat else min v.toNat n):Nat):Int)
 by_cases hv:v<0
 . simp only[if_pos hv];omega
 . simp only[if_neg hv];omega
def abG(lo hi:Option Int)(n:Nat):Builtin.Slice.sliceAdjust lo hi 1 (n:Int)=(((uX n 0 lo:Nat):Int),((uX n n hi:Nat):Int)):=by
 have h1:¬((1:Int)<0):=by omega
 unfold Builtin.Slice.sliceAdjust;simp only[h1,if_false];refine Prod.ext ?_ ?_
 . cases lo with
   |none=>rfl
   |some v=>exact ac5 v n 0
 . cases hi with
   |none=>rfl
   |some v=>exact ac5 v n n
def acu(i j:Nat):Builtin.Slice.slicePlaces (i:Int) (j:Int) 1=j-i:=by
 unfold Builtin.Slice.slicePlaces;have h1:(1:Int)>0:=by omega
 simp only[h1,rB,Int.ediv_one];split<;>omega
def Um{v:Value}{o:Option Int}{Q:Option Int->Shared->Prop}(p:IsPart v o)(h:Q o s):wpAny (model prog w) A (Builtin.Slice.slicePartIndex v) Q E s:=by
 cases p with
 |none=>exact slicePart_none h
 |int i t=>exact slicePart_int h
def Pa{sl:Addr}{vl vu:Value}{lo hi:Option Int}{Q:Int×Int×Nat->Shared->Prop}(hs:s.heap.IsSliceOf sl vl vu .none)(pl:IsPart vl lo)(pu:IsPart vu hi)(h:Q (((uX n 0 lo:Nat):Int),1,uX n n hi-uX n 0 lo) s):wpAny (model prog w) A (Builtin.Slice.sliceApplied (.ref sl) (pure (n:Int))) Q E s:=by
 obtain⟨os,hos,hcs,hds⟩:=id hs;unfold Builtin.Slice.sliceApplied Builtin.Slice.sliceFields;refine aj (aj (wpAny_field hos hds (x:=vl) rfl (aj (wpAny_field hos hds (x:=vu) rfl (aj (wpAny_field hos hds (x:=.none) rfl (aA ?_)))))));refine aj (slicePart_none ?_);show wpAny _ _ (if ((1:Int)==0)=true then _ else _) _ _ s
 rw[if_neg (by decide)];refine aj (Um pl (aj (Um pu (aj (aA ?_)))));show wpAny _ _ (match Builtin.Slice.sliceAdjust lo hi 1 (n:Int) with|(lo,hi)=>pure (lo,(1:Int),Builtin.Slice.slicePlaces lo hi 1)) _ _ s
 rw[abG lo hi n];show wpAny _ _ (pure (((uX n 0 lo:Nat):Int),(1:Int),Builtin.Slice.slicePlaces ((uX n 0 lo:Nat):Int) ((uX n n hi:Nat):Int) 1)) _ _ s
 rw[acu];exact aA h
def af9(xs:Array Value)(i k:Nat):((List.range k).filterMap λ(m:Nat)=>xs[((i:Int)+(m:Int)*1).toNat]?).toArray=((xs.toList.drop i).take k).toArray:=by
 have e:(λ(m:Nat)=>xs[((i:Int)+(m:Int)*1).toNat]?)=λm=>xs[i+m]?:=by
  funext m;have:((i:Int)+(m:Int)*1).toNat=i+m:=by omega
  rw[this]
 rw[e];have:=pick_run xs i k;rw[List.filterMap_map]at this;have e2:((λx=>xs[x]?) ∘ λx=>i+x)=λm=>xs[i+m]?:=rfl;rw[e2]at this;rw[this]
def Mp{t sl:Addr}{items:Array Value}{vl vu:Value}{lo hi:Option Int}(ht:IsTup s.heap t items)(hs:s.heap.IsSliceOf sl vl vu .none)(pl:IsPart vl lo)(pu:IsPart vu hi)(hw:¬(uX items.size 0 lo=0/\uX items.size items.size hi=items.size))(h:Q (.ref s.heap.objs.size) {s with heap:=s.heap.push {cls:=.type "tuple",data:=.seq ((items.toList.drop (uX items.size 0 lo)).take (uX items.size items.size hi-uX items.size 0 lo)).toArray}})(hsz:items.size<=sizeLine):wpAny (model prog w) A (getItem (.ref t) (.ref sl)) Q E s:=by
 have htake:sizeOk (.seq ((items.toList.drop (uX items.size 0 lo)).take (uX items.size items.size hi-uX items.size 0 lo)).toArray):=by
  show ((items.toList.drop (uX items.size 0 lo)).take (uX items.size items.size hi-uX items.size 0 lo)).toArray.size<=sizeLine
  rw[bH,aY,bu,cW];omega
 have hj:uX items.size items.size hi<=items.size:=ajG _ _ (aH _) hi;obtain⟨os,hos,hcs,hds⟩:=id hs;have hTs:s.TypeIs (.ref sl) "slice":=⟨os,hos,hcs⟩;unfold getItem;try with_reducible refine iG ?_
 first|refine aj (aA ?_)|skip
 refine aj (wpAny_sequenceKey ht.typeIs (by decide) ?_);refine aj (wpAny_callSpecial?_slot (name:=Str.ofString "__getitem__") ht.typeIs PyProof.Rows.slot_tuple_getitem
  (jP PyProof.Rows.slot_tuple_getitem ht.typeIs entry_tuple_getitem ?_ (args_tuple_getitem _ _)))
 show wpAny _ _ (Builtin.Tuple.tupleItemsOf (.ref t) >>= _) _ _ s
 refine aj (tupleItemsOf_ ht ?_);refine aj (wpAny_typeOf hTs ?_);rw[if_pos (by decide)];refine aj (Pa hs pl pu ?_);have hno:¬((((uX items.size 0 lo:Nat):Int)==0&&(1:Int)==1&&(uX items.size items.size hi-uX items.size 0 lo)==items.size)=true):=by
  intro q;rw[bQ,bQ]at q;have q1:((uX items.size 0 lo:Nat):Int)=0:=eq_of_beq q.1.1;have q2:uX items.size items.size hi-uX items.size 0 lo=items.size:=eq_of_beq q.2;exact hw ⟨by omega,by omega⟩
 show wpAny _ _ (if (((uX items.size 0 lo:Nat):Int)==0&&(1:Int)==1&&(uX items.size items.size hi-uX items.size 0 lo)==items.size)=true then _ else _) _ _ s
 rw[if_neg hno,af9];first
  |exact aj (m:=Builtin.Tuple.tupleExact _) (dJ (aA ⟨_,rfl,aA h⟩) htake)
  |exact aj (m:=Builtin.Tuple.tupleExact _) (dJ (aj (aA (aA ⟨_,rfl,aA h⟩))) htake)
  |exact aj (aj (m:=Builtin.Tuple.tupleExact _) (dJ (aA (aA ⟨_,rfl,aA h⟩)) htake))
  |exact aj (aj (m:=Builtin.Tuple.tupleExact _) (dJ (aA ⟨_,rfl,aA h⟩) htake))
end HT
namespace L2
open PySem PySem.Spec PyProof.Rows
abbrev TO:= St->Hp->(Option Int->Hp->Prop)->Prop
def PO(X:Cx)(e:Option Expr)(t:TO):Prop:=
 ∀(aN:List (Addr×Obj)) (s:Shared) (σ:St) (H:Hp) (Q:Option Int->Hp->Prop),d8 X aN σ H s->t σ H Q ->
  wpAny (model X.prog X.w) X.A (evalPart e X.env) (λu s'=>∃o H',d8 X aN σ H' s'/\IsPart u o/\Q o H') X.xe s
def RB:TO:=λ_ H Q=>Q none H
def Xb(t:TE):TO:=λσ H Q=>t σ H λx H1=>∃i,x=.int i/\Q (some i) H1
section
variable{lo hi:Option Expr}{tl th:TO}{p2:Pos}
def uW:PO X none RB:=by
 intro aN s σ H Q I h;rw[evalPart_none];exact aA ⟨none,H,I,.none,h⟩
def iu(h:PE X e te):PO X (some e) (Xb te):=by
 intro aN s σ H Q I hw;rw[evalPart_some];refine nO (h aN s σ H _ I hw) λu s1 ⟨x,H1,I1,r1,q1⟩=>?_;obtain⟨i,rfl,q⟩:=q1;obtain⟨t,rfl⟩:=r1;exact⟨some i,H1,I1,.int i t,q⟩
def SlR(X:Cx)(r:V->Option Int->Option Int->Hp->VK->Prop):Prop:=
 ∀(aN:List (Addr×Obj)) (s:Shared) (σ:St) (H:Hp) (x:V) (v vl vu:Value) (lo hi:Option Int) (sl:Addr) (Q:VK),d8 X aN σ H s->jt x v->s.heap.IsSliceOf sl vl vu .none->IsPart vl lo->IsPart vu hi->r x lo hi H Q ->
  ∃T id,typeLookup (.type T) "__getitem__"=pure (some (.builtin id))/\s.TypeIs v T/\wpAny (model X.prog X.w) X.A (getItem v (.ref sl)) (EP X aN σ Q) X.xe s
def tSl(r:V->Option Int->Option Int->Hp->VK->Prop)(te:TE)(tl th:TO):TE:=λσ H Q=>te σ H λx H1=>tl σ H1 λl H2=>th σ H2 λu H3=>r x l u H3 Q
def jz{r:V->Option Int->Option Int->Hp->VK->Prop}(hr:SlR X r)(he:PE X e te)(hl:PO X lo tl)(hu:PO X hi th):PE X (.Subscript e (.Slice lo hi none p2) pos) (tSl r te tl th):=by
 intro aN s σ H Q I h;refine Subscript_ (nO (he aN s σ H _ I h) λv s1 ⟨x,H1,I1,r1,q1⟩=>?_);refine wpAny_Slice (nO (hl aN s1 σ H1 _ I1 q1) λvl s2 ⟨l,H2,I2,pl,q2⟩=>nO (hu aN s2 σ H2 _ I2 q2) λvu s3 ⟨u,H3,I3,pu,q3⟩=>?_);rw[evalPart_none];refine aA ?_;have I4:d8 X aN σ H3 {s3 with heap:=s3.heap.push {cls:=.type "slice",data:=.fields #[vl,vu,.none]}}:=I3.wK (t':=s3.toks) λb ob q=>aL _ q;obtain⟨T,id,hT,ht,hg⟩:=hr aN {s3 with heap:=s3.heap.push {cls:=.type "slice",data:=.fields #[vl,vu,.none]}} σ H3 x v vl vu l u s3.heap.objs.size Q I4 r1 (Heap.IsSliceOf.new ..) pl pu q3
 show wpAny (model X.prog X.w) X.A (subscriptTail e (.Slice lo hi none p2) v (.ref s3.heap.objs.size)) (EP X aN σ Q) X.xe {s3 with heap:=s3.heap.push {cls:=.type "slice",data:=.fields #[vl,vu,.none]}}
 exact tail_any (ops:=[.ref s3.heap.objs.size,v]) ht hT hg (by with_unfolding_all rfl)
def sV(xs:List V)(lo hi:Option Int):List V:=(xs.drop (HT.uX xs.length 0 lo)).take (HT.uX xs.length xs.length hi-HT.uX xs.length 0 lo)
def Pr(xs:List V)(lo hi:Option Int):(sV xs lo hi).length<=xs.length:=by
 unfold sV;rw[aY,bu];omega
inductive alV(K:Fg)(x:V)(lo:Option Int)(hi:Option Int)(H:Hp)(Q:VK):Prop
 |mk (a:_) (xs:_) (_:x=.ref a) (_:Bx K H a xs) (_:¬(HT.uX xs.length 0 lo=0/\HT.uX xs.length xs.length hi=xs.length)) (_:∀p,H p=none->Q (.ref p) (bM H p (.tup (sV xs lo hi))))
def ajK:SlR X (alV X.K):=by
 intro aN s σ H x v vl vu lo hi sl Q I rx hs pl pu h;obtain⟨a,xs,rfl,hx,hw,q⟩:=h
 cases rx;obtain⟨its,r,ht,hz⟩:=I.tuple hx;have jB:its.toArray.size=xs.length:=by rw[bH];exact r.length.symm
 refine⟨"tuple",_,PyProof.Rows.slot_tuple_getitem.lookup,ht.typeIs,?_⟩;refine HT.Mp ht hs pl pu (by rw[jB];exact hw) ?_ (by rw[jB];exact hz)
 rw[jB];refine⟨.ref s.heap.objs.size,_,I.laid (t':=s.toks) (o:=.tup (sV xs lo hi)) (λb ob q=>aL _ q) (aH _) ?_,rfl,q _ (I.mC.fresh (aH _))⟩;exact⟨cG (Pr xs lo hi) hz,_,(r.drop (HT.uX xs.length 0 lo)).take (HT.uX xs.length xs.length hi-HT.uX xs.length 0 lo),IsTup.new _ _⟩
end
def ixN(n:Nat)(i:Int):Option Nat:=if 0<=i then (if i<n then some i.toNat else none) else if -(n:Int)<=i then some (i+n).toNat else none
def atI{α:Type}(xs:List α)(i:Int):Option α:=(ixN xs.length i).bind λj=>xs[j]?
def ahs{i:Int}(h:ixN n i=some j):seqIndex? i n=some j/\j<n/\-(n:Int)<=i/\i<n:=by
 unfold ixN at h;by_cases h0:0<=i
 . rw[if_pos h0]at h;by_cases h1:i<n
   . rw[if_pos h1]at h;have e:i.toNat=j:=cz h;exact⟨by rw[seqIndex_of h0 h1,e],by omega,by omega,h1⟩
   . rw[if_neg h1]at h;cases h
 . rw[if_neg h0]at h;by_cases h1:-(n:Int)<=i
   . rw[if_pos h1]at h;have e:(i+n).toNat=j:=cz h;exact⟨by rw[seqIndex_neg (by omega) h1,e],by omega,h1,by omega⟩
   . rw[if_neg h1]at h;cases h
def ac1{α:Type}{xs:List α}{i:Int}{v:α}(h:atI xs i=some v):∃j,seqIndex? i xs.length=some j/\xs[j]? = some v/\j<xs.length/\-(xs.length:Int)<=i/\i<xs.length:=by
 unfold atI at h
 cases e:ixN xs.length i with
 |none=>rw[e]at h;cases h
 |some j=>
  rw[e]at h;obtain⟨h1,h2,h3,h4⟩:=ahs e;exact⟨j,h1,h,h2,h3,h4⟩
def ag2{α:Type}{xs:List α}{v:α}(h:xs[j]? = some v):atI xs (j:Int)=some v:=by
 have hj:j<xs.length:=(bh.mp h).1;have e:ixN xs.length (j:Int)=some j:=by
  unfold ixN;rw[if_pos (by omega),if_pos (by omega)];simp
 unfold atI;rw[e];exact h
def ae5{α:Type}(xs:List α)(v:α):atI (xs++[v]) (-1)=some v:=by
 have hl:(xs++[v]).length=xs.length+1:=by simp
 have e:ixN (xs++[v]).length (-1)=some xs.length:=by
  unfold ixN;rw[hl,if_neg (by decide),if_pos (by omega)];congr 1;omega
 unfold atI;rw[e];show (xs++[v])[xs.length]? = some v
 simp
def ag0(b:Expr):Prop:=∀o i,subscripted b false o i=operate [o,i] (getItem o i)
def IxR(X:Cx)(r:R2):Prop:=
 ∀(value slice:Expr) (aN:List (Addr×Obj)) (s:Shared) (σ:St) (H:Hp) (x y:V) (v u:Value) (Q:VK),d8 X aN σ H s->jt x v->jt y u->r x y H Q ->
  subscripted slice false v u=operate [v,u] (getItem v u)->wpAny (model X.prog X.w) X.A (subscriptTail value slice v u) (EP X aN σ Q) X.xe s
def MtR(X:Cx)(id:String)(r:V->List V->Hp->VK->Prop):Prop:=
 ∀(aN:List (Addr×Obj)) (s:Shared) (σ:St) (H:Hp) (x:V) (xs:List V) (v:Value) (us:List Value) (Q:VK),d8 X aN σ H s->jt x v->ie xs us->r x xs H Q ->
  wpAny (model X.prog X.w) X.A (call (.builtin id) (v::us)) (EP X aN σ Q) X.xe s
section
variable{a b:Expr}{ta tb:TE}
def vU(hr:IxR X r)(ha:PE X a ta)(hb:PE X b tb)(hs:ag0 b):PE X (.Subscript a b pos) (tOp r ta tb):=by
 intro aN s σ H Q I h;exact Subscript_ (aiN ha hb I h λv u s2 x y H2 I2 rx ry q=>hr a b aN s2 σ H2 x y v u Q I2 rx ry q (hs _ _))
inductive alR(K:Fg)(x:V)(y:V)(H:Hp)(Q:VK):Prop
 |mk (p:_) (xs:_) (i:_) (v:_) (_:x=.ref p) (_:y=.int i) (_:fH K H p xs) (_:atI xs i=some v) (_:Q v H)
inductive alS(K:Fg)(x:V)(y:V)(H:Hp)(Q:VK):Prop
 |mk (p:_) (xs:_) (i:_) (v:_) (_:x=.ref p) (_:y=.int i) (_:Bx K H p xs) (_:atI xs i=some v) (_:Q v H)
def pZ:IxR X (alR X.K):=by
 intro value slice aN s σ H x y v u Q I rx ry h hs;obtain⟨p,xs,i,z,rfl,rfl,hq,he,q⟩:=h
 cases rx;obtain⟨t,rfl⟩:=ry;obtain⟨its,r,pl,hz⟩:=I.list hq;obtain⟨j,h1,h2,h3,h4,h5⟩:=ac1 he;obtain⟨w,ew,rw'⟩:=r.get h2;have hl:=r.length;have hn:=ab9;have fin:EP X aN σ Q w s:=⟨z,H,I,rw',q⟩;by_cases h0:0<=i
 . have hj:i.toNat=j:=by
    rw[seqIndex_of h0 h5]at h1;exact cz h1
   exact item_listR pl.isList h0 (by omega) (by rw[hj];simpa using ew) fin hs
 . have hj:(i+(its.toArray.size:Int)).toNat=j:=by
    rw[seqIndex_neg (by omega) h4]at h1;rw[bH,<-hl];exact cz h1
   exact subscriptTail_builtinR (x:=w) pl.isList.typeIs slot_list_getitem.lookup
    (wpAny_getItem_list_neg (Q:=λr s'=>r=w/\EP X aN σ Q r s') pl.isList (by omega) (by rw[bH]<;>omega) (by omega) (by rw[hj];simpa using ew) ⟨rfl,fin⟩) hs
def Ys:IxR X (alS X.K):=by
 intro value slice aN s σ H x y v u Q I rx ry h hs;obtain⟨p,xs,i,z,rfl,rfl,hq,he,q⟩:=h
 cases rx;obtain⟨t,rfl⟩:=ry;obtain⟨its,r,pl,hz⟩:=I.tuple hq;obtain⟨j,h1,h2,h3,h4,h5⟩:=ac1 he;obtain⟨w,ew,rw'⟩:=r.get h2;have hl:=r.length;have hn:=ab9;have fin:EP X aN σ Q w s:=⟨z,H,I,rw',q⟩;exact subscriptTail_builtinR (x:=w) pl.typeIs slot_tuple_getitem.lookup
  (getItem_tuple (j:=j) (Q:=λr s'=>r=w/\EP X aN σ Q r s') pl (by omega) (by omega) (by rw[bH,<-hl];exact h1) (by simpa using ew) ⟨rfl,fin⟩) hs
def d8.cM{p:Addr}(I:d8 X aN σ H s)(h:H p=some (.cM xs)):
 ∃(its:List Value)(n:Nat),ie xs its/\s.heap.get? p=some {cls:=.type "list",data:=.seq its.toArray n}/\xs.length<=sizeLine:=by
 obtain⟨z,its,n,r,e⟩:=I.mC p _ h;exact⟨its,n,r,e,z⟩
def Zq(lo hi:Option Int)(n:Nat):(sliceBounds lo hi none n).1=((HT.uX n 0 lo:Nat):Int)/\(sliceBounds lo hi none n).2.1=((HT.uX n n hi:Nat):Int)/\(sliceBounds lo hi none n).2.2=1:=by
 refine⟨?_,?_,rfl⟩
 . cases lo with
   |none=>simp[sliceBounds,HT.uX]
   |some i=>
    simp only[sliceBounds,HT.uX,Option.getD_none,show (1:Int)>0 by decide,rB];by_cases h:i<0
    . simp only[h,rB]<;>omega
    . simp only[h,if_false]<;>omega
 . cases hi with
   |none=>simp[sliceBounds,HT.uX]
   |some i=>
    simp only[sliceBounds,HT.uX,Option.getD_none,show (1:Int)>0 by decide,rB];by_cases h:i<0
    . simp only[h,rB]<;>omega
    . simp only[h,if_false]<;>omega
def Wd(its:List Value)(lo hi:Option Int):slicePick its.toArray lo hi none=((its.drop (HT.uX its.length 0 lo)).take (HT.uX its.length its.length hi-HT.uX its.length 0 lo)).toArray:=by
 obtain⟨h1,h2,h3⟩:=Zq lo hi its.toArray.size;unfold slicePick;rw[h1,h2,h3];simp only[sliceRange_one,pick_run,bH]<;>rfl
inductive agi(K:Fg)(x:V)(lo:Option Int)(hi:Option Int)(H:Hp)(Q:VK):Prop
 |mk (a:_) (xs:_) (_:x=.ref a) (_:fH K H a xs) (_:∀p,H p=none->Q (.ref p) (bM H p (.cM (sV xs lo hi))))
def lG:SlR X (agi X.K):=by
 intro aN s σ H x v vl vu lo hi sl Q I rx hs pl pu h;obtain⟨a,xs,rfl,hx,q⟩:=h
 cases rx;obtain⟨its,r,ht,hz⟩:=I.list hx;have jB:=r.length;refine⟨"list",_,slot_list_getitem.lookup,ht.isList.typeIs,?_⟩;refine wpAny_getItem_list_slice ht.isList hs pl pu .none (by simp) ?_ (by rw[bH]<;>omega);rw[Wd,<-jB];refine⟨.ref s.heap.objs.size,_,I.laid (t':=s.toks) (o:=.cM (sV xs lo hi)) (λb ob q=>aL _ q) (aH _) ?_,rfl,q _ (I.mC.fresh (aH _))⟩;exact⟨cG (Pr xs lo hi) hz,_,0,(r.drop (HT.uX xs.length 0 lo)).take (HT.uX xs.length xs.length hi-HT.uX xs.length 0 lo),aV _ rfl⟩
def Mm:V->Bool
 |.non=>true
 |.bl _=>true
 |.int _=>true
 |.str _=>true
 |_=>false
def eqV:V->V->Bool
 |.non,.non=>true
 |.bl a,.bl b=>a==b
 |.bl a,.int b=>(if a then 1 else 0)==b
 |.int a,.bl b=>a==(if b then 1 else 0)
 |.int a,.int b=>a==b
 |.str a,.str b=>a==b
 |_,_=>false
def ai2{x:V}{v:Value}(ry:jt y u)(rx:jt x v)(fy:Mm y=true)(fx:Mm x=true):SeqAt.EqAt A s u v (eqV y x):=by
 cases y with
 |non=>
  cases ry
  cases x with
  |non=>cases rx;exact SeqAt.EqAt.same _
  |bl b=>cases rx;exact SeqAt.EqAt.none_bool b
  |int b=>obtain⟨t,rfl⟩:=rx;exact SeqAt.EqAt.none_int b t
  |str b=>obtain⟨t,rfl⟩:=rx;exact SeqAt.EqAt.none_str b t
  |_=>exact absurd (show false=true from fx) aW
 |bl a=>
  cases ry
  cases x with
  |non=>cases rx;exact SeqAt.EqAt.bool_none a
  |bl b=>cases rx;exact SeqAt.EqAt.bool_bool a b
  |int b=>obtain⟨t,rfl⟩:=rx;exact SeqAt.EqAt.bool_int a b t
  |str b=>obtain⟨t,rfl⟩:=rx;exact SeqAt.EqAt.bool_str a b t
  |_=>exact absurd (show false=true from fx) aW
 |int a=>
  obtain⟨t',rfl⟩:=ry
  cases x with
  |non=>cases rx;exact SeqAt.EqAt.int_none a t'
  |bl b=>cases rx;exact SeqAt.EqAt.int_bool a t' b
  |int b=>obtain⟨t,rfl⟩:=rx;exact SeqAt.EqAt.int_int a t' b t
  |str b=>obtain⟨t,rfl⟩:=rx;exact SeqAt.EqAt.int_str a t' b t
  |_=>exact absurd (show false=true from fx) aW
 |str a=>
  obtain⟨t',rfl⟩:=ry
  cases x with
  |non=>cases rx;exact SeqAt.EqAt.str_none a t'
  |bl b=>cases rx;exact SeqAt.EqAt.str_bool a t' b
  |int b=>obtain⟨t,rfl⟩:=rx;exact SeqAt.EqAt.str_int a t' b t
  |str b=>obtain⟨t,rfl⟩:=rx;exact SeqAt.EqAt.str_str a t' b t
  |_=>exact absurd (show false=true from fx) aW
 |_=>exact absurd (show false=true from fy) aW
def eqU(x:V)(u:Value):Bool:=match u with
 |.none=>eqV .non x
 |.bool b=>eqV (.bl b) x
 |.int i _=>eqV (.int i) x
 |.str z _=>eqV (.str z) x
 |_=>false
def afu{x:V}(r:jt y u)(f:Mm y=true):eqU x u=eqV y x:=by
 cases y with
 |non=>cases r;rfl
 |bl b=>cases r;rfl
 |int i=>obtain⟨t,rfl⟩:=r;rfl
 |str z=>obtain⟨t,rfl⟩:=r;rfl
 |_=>exact absurd (show false=true from f) aW
theorem LC{x:V}:∀{xs:List V}{us:List Value},ie xs us->xs.all Mm=true->us.any (eqU x)=xs.any λy=>eqV y x
 |_,_,.nil,_=>rfl
 |y::xs,u::us,.cons r t,f=>by
  rw[jK,bQ]at f;rw[jL,jL,afu r f.1,LC t f.2]
theorem Hl{A:Around}{s:Shared}{x:V}{v:Value}(rx:jt x v)(fx:Mm x=true):∀{xs:List V}{us:List Value},ie xs us->xs.all Mm=true->∀u∈us,SeqAt.EqAt A s u v (eqU x u)
 |_,_,.nil,_=>λu hu=>by cases hu
 |y::xs,u::us,.cons r t,f=>λu' hu=>by
  rw[jK,bQ]at f;rcases aJ.mp hu with rfl|hu
  . rw[afu r f.1];exact ai2 r rx f.1 fx
  . exact Hl rx fx t f.2 u' hu
def inV(x:V)(xs:List V):Bool:=xs.any λy=>eqV y x
inductive rIn(K:Fg)(neg:Bool)(x:V)(y:V)(H:Hp)(Q:VK):Prop
 |mk (p:_) (xs:_) (_:y=.ref p) (_:(fH K H p xs\/Bx K H p xs)) (_:Mm x=true) (_:xs.all Mm=true) (_:Q (.bl (if neg then !inV x xs else inV x xs)) H)
def Ja:Jh X (compareOp .In) (rIn X.K false):=by
 intro aN s σ H x y v u Q I rx ry h;obtain⟨p,xs,rfl,hq,fx,fs,q⟩:=h
 cases ry;rcases hq with hq|hq
 . obtain⟨its,r,pl,hz⟩:=I.list hq;refine SeqAt.in_listAt (eqU x) pl.isList (λw hw=>Hl rx fx r fs w (by simpa using hw)) ⟨.bl _,H,I,rfl,?_⟩;rw[show its.toArray.any (eqU x)=its.any (eqU x) by simp,LC r fs];exact q
 . obtain⟨its,r,pl,hz⟩:=I.tuple hq;refine SeqAt.in_tupleAt (eqU x) pl (λw hw=>Hl rx fx r fs w (by simpa using hw)) ⟨.bl _,H,I,rfl,?_⟩;rw[show its.toArray.any (eqU x)=its.any (eqU x) by simp,LC r fs];exact q
def MF:Jh X (compareOp .NotIn) (rIn X.K true):=by
 intro aN s σ H x y v u Q I rx ry h;obtain⟨p,xs,rfl,hq,fx,fs,q⟩:=h
 cases ry;rcases hq with hq|hq
 . obtain⟨its,r,pl,hz⟩:=I.list hq;refine SeqAt.notIn_listAt (eqU x) pl.isList (λw hw=>Hl rx fx r fs w (by simpa using hw)) ⟨.bl _,H,I,rfl,?_⟩;rw[show its.toArray.any (eqU x)=its.any (eqU x) by simp,LC r fs];exact q
 . obtain⟨its,r,pl,hz⟩:=I.tuple hq;refine SeqAt.notIn_tupleAt (eqU x) pl (λw hw=>Hl rx fx r fs w (by simpa using hw)) ⟨.bl _,H,I,rfl,?_⟩;rw[show its.toArray.any (eqU x)=its.any (eqU x) by simp,LC r fs];exact q
def bc:Lj X (.builtin "len") (λxs H Q=>∃p ys,xs=[.ref p]/\(fH X.K H p ys\/Bx X.K H p ys)/\Q (.int ys.length) H):=by
 intro aN s σ H xs us Q I r h;obtain⟨p,ys,rfl,hq,q⟩:=h;obtain⟨u,rfl,rx⟩:=agN r
 cases rx;have hn:=ab9;rcases hq with hq|hq
 . obtain⟨its,r',pl,hz⟩:=I.list hq;have jB:=r'.length;exact Calls.call_len_list pl.isList (by simp only[bH]<;>omega) ⟨.int ys.length,H,I.Dr _,⟨s.toks+1,by rw[bH,jB]⟩,q⟩
 . obtain⟨its,r',pl,hz⟩:=I.tuple hq;have jB:=r'.length;exact len_tuple pl (by simp only[bH]<;>omega) ⟨.int ys.length,H,I.Dr _,⟨s.toks+1,by rw[bH,jB]⟩,q⟩
def tyV(K:Fg)(T:String)(x:V)(H:Hp):Prop:=match x with
 |.str _=>T="str"
 |.int _=>T="int"
 |.ref p=>(T="list"/\∃xs,fH K H p xs)\/(T="tuple"/\∃o,K.lookup p=some o/\o.cls=.type "tuple"/\o.dict=none) \/
  (T="dict"/\((∃gK,H p=some (.dK gK))\/∃gK,H p=some (.dT gK)))\/(T="set"/\∃S n,H p=some (.set S n))
 |_=>False
theorem agM{T:String}{x:V}{v:Value}(I:d8 X aN σ H s)(r:jt x v)(ty:tyV X.K T x H):
 s.TypeIs v T/\∀a,v=.ref a->∃ob,s.heap.get? a=some ob/\ob.dict=none:=by
 cases x with
 |str z=>
  obtain⟨t,rfl⟩:=r
  cases (show T="str" from ty);exact⟨typeIs_str s z t,λ_ e=>nomatch e⟩
 |int i=>
  obtain⟨t,rfl⟩:=r
  cases (show T="int" from ty);exact⟨typeIs_int s i t,λ_ e=>nomatch e⟩
 |ref p=>
  cases r;rcases ty with⟨rfl,xs,hq⟩|⟨rfl,o,hk,hc,hd⟩|⟨rfl,hk⟩|⟨rfl,S,n,hk⟩
  . obtain⟨its,_,pl,_⟩:=I.list hq;refine⟨pl.isList.typeIs,λa e=>?_⟩
    cases e;obtain⟨o,n,e,c,hd,_⟩:=pl;exact⟨o,e,hd⟩
  . refine⟨⟨o,I.kIn p o hk,hc⟩,λa e=>?_⟩
    cases e;exact⟨o,I.kIn _ o hk,hd⟩
  . have z:∃o,s.heap.get? p=some o/\o.ExactDict:=by
     rcases hk with⟨gK,hk⟩|⟨gK,hk⟩
     . obtain⟨_,_,_,_,o,_,_,e,ex,_⟩:=I.mC p _ hk;exact⟨o,e,ex⟩
     . obtain⟨_,_,_,_,o,_,_,e,ex,_⟩:=I.mC p _ hk;exact⟨o,e,ex⟩
    obtain⟨o,e,ex⟩:=z;refine⟨⟨o,e,ex.1⟩,λa e2=>?_⟩
    cases e2;exact⟨o,e,ex.2.1⟩
  . obtain⟨o,_,_,_,e,ex,_⟩:=I.mC p _ hk;refine⟨⟨o,e,ex.1⟩,λa e2=>?_⟩
    cases e2;exact⟨o,e,ex.2.1⟩
 |_=>exact False.elim ty
def al1(K:Fg)(T:String)(r:V->List V->Hp->VK->Prop)(to:TE):TE:=λσ H Q=>to σ H λx H1=>tyV K T x H1/\r x [] H1 Q
def tBM(K:Fg)(T:String)(r:V->List V->Hp->VK->Prop)(to:TE)(t:TA):TE:=λσ H Q=>to σ H λx H1=>tyV K T x H1/\t σ H1 λxs H2=>r x xs H2 Q
variable{o:Expr}{to:TE}{t:TA}{name:Str}{cpos:Pos}{T id:String}{r:V->List V->Hp->VK->Prop}
def ajw(pa:PlainAttrs T)(slot:Slot T name id)(hty:typeOf (.builtin id)=pure (.type "method_descriptor"))(hm:MtR X id r)(ho:PE X o to)(hbase:attributeBase o name X.env (eval o X.env)=eval o X.env:=by rfl)(hline:(apos.endLine==cpos.line)=true:=by rfl):PE X (.Call (.Attribute o name apos) [] [] cpos) (al1 X.K T r to):=by
 intro aN s σ H Q I h;refine wpAny_Call_method0_late hbase hline (nO (ho aN s σ H _ I h) λv s1 ⟨x,H1,I1,r1,ty,q1⟩=>?_);obtain⟨h1,h2⟩:=agM I1 r1 ty;exact⟨T,id,pa,slot,hty,h1,h2,iM rfl (PySem.evalArgs_none (hm aN s1 σ H1 x [] v [] Q I1 r1 .nil q1))⟩
def uR(pa:PlainAttrs T)(slot:Slot T name id)(hty:typeOf (.builtin id)=pure (.type "method_descriptor"))(hm:MtR X id r)(ho:PE X o to)(ha:PA X (e::es) t)(hbase:attributeBase o name X.env (eval o X.env)=eval o X.env:=by rfl)(hfew:((backTo cpos (starEach (e::es) X.env)).all (λx=>!x.1)&&(backToKw cpos (keywordEach [] X.env)).all (λx=>x.1.isSome)
 && decide ((e::es).length+([]:List Keyword).length+(if ([]:List Keyword).isEmpty then 0 else 1)<30))=true:=by rfl)(hline:(apos.endLine==cpos.line)=true:=by rfl)(hs:starEach (e::es) X.env=(false,eval e X.env)::starEach es X.env:=by rfl)(hplain:(backTo cpos (starEach es X.env)).any (·.1)=false:=by rfl):
 PE X (.Call (.Attribute o name apos) (e::es) [] cpos) (tBM X.K T r to t):=by
 intro aN s σ H Q I h;refine wpAny_Call_method_late hbase hfew hline rfl (nO (ho aN s σ H _ I h) λv s1 ⟨x,H1,I1,r1,ty,q1⟩=>?_);obtain⟨h1,h2⟩:=agM I1 r1 ty;refine⟨T,id,pa,slot,hty,h1,h2,?_⟩;have hA:=ha cpos aN s1 σ H1 _ I1 q1;rw[hs]at hA ⊢;refine iM (by show (false||(backTo cpos (starEach es X.env)).any (·.1))=false;rw[hplain]<;>rfl) (jh ?_)
 exact nO hA λus s2 ⟨vs,H2,I2,r2,q2⟩=>hm aN s2 σ H2 x vs v us Q I2 r1 r2 q2
end
def MtM(X:Cx)(id:String)(r:V->List V->Hp->VK->Prop):Prop:=
 ∀(aN:List (Addr×Obj)) (s:Shared) (σ:St) (H:Hp) (x:V) (xs:List V) (v:Value) (us:List Value) (Q:VK),d8 X aN σ H s->jt x v->ie xs us->r x xs H Q ->
  wpAny (model X.prog X.w) X.A (call (.builtin id) (v::us)) (EP X aN σ Q) X.xe s
theorem ie.one:∀{x:V}{us:List Value},ie [x] us->∃u,us=[u]/\jt x u
 |_,_,.cons r .nil=>⟨_,rfl,r⟩
theorem ie.zero:∀{us:List Value},ie [] us->us=[]
 |_,.nil=>rfl
def ie.dropLast{xs:List V}{us:List Value}(h:ie xs us):ie xs.dropLast us.dropLast:=by
 induction h with
 |nil=>exact .nil
 |cons r t ih=>
  cases t with
  |nil=>exact .nil
  |cons q t'=>exact .cons r ih
theorem ie.eraseIdx:∀{xs:List V}{us:List Value}(i:Nat),ie xs us->ie (xs.eraseIdx i) (us.eraseIdx i)
 |_,_,_,.nil=>.nil
 |_,_,0,.cons _ t=>t
 |_,_,i+1,.cons r t=>.cons r (ie.eraseIdx i t)
def abY{α:Type}(l:List α):l.eraseIdx (l.length-1)=l.dropLast:=by
 induction l with
 |nil=>rfl
 |cons a r ih=>
  cases r with
  |nil=>rfl
  |cons b r=>
   have e:(a::b::r).length-1=((b::r).length-1)+1:=by
    have h1:(a::b::r).length=r.length+2:=rfl;have h2:(b::r).length=r.length+1:=rfl;omega
   rw[e,List.eraseIdx_cons_succ,ih]
   all_goals rfl
theorem WN{α:Type}:∀(l:List α)(i:Nat),(l.eraseIdx i).length<=l.length
 |[],_=>aH _
 |_::_,0=>mY _
 |_::r,i+1=>Nat.succ_le_succ (WN r i)
section
variable{ys zs:List V}
def d8.afR{its':List Value}{f:Array Value->Array Value}{t':Nat}(I:d8 X aN σ H s)(hH:H l=some (.cM xs))(e:s.heap.get? l=some {cls:=.type "list",data:=.seq its.toArray n})(hf:f its.toArray=its'.toArray)(hv:ie ys its')(hz:ys.length<=sizeLine):
 d8 X aN σ (bM H l (.cM ys)) {s with heap:=s.heap.update l (Obj.mapSeq f),toks:=t'}:=by
 have q:=PySem.IsL.update e f;rw[hf]at q;refine I.Nj (x:=l) (e:=l) (by rw[hH];exact trivial) (.inl rfl) (λb' u hb hu=>(lY s.heap (Obj.mapSeq f) (Ne.symm hb)).trans hu) ⟨_,q⟩ ?_
 exact⟨hz,its',_,hv,q⟩
def d8.alH{t':Nat}(I:d8 X aN σ H s)(hv:ie ys its)(hz:ys.length<=sizeLine):
 d8 X aN σ (bM H s.heap.objs.size (.cM ys)) {s with heap:=s.heap.push {cls:=.type "list",data:=.seq its.toArray},toks:=t'}:=
 I.laid (λ_ _ q=>aL _ q) (aH _) ⟨hz,its,0,hv,aV _ rfl⟩
def d8.fresh(I:d8 X aN σ H s):H s.heap.objs.size=none:=I.mC.fresh (aH _)
def d8.aaQ(I:d8 X aN σ H s)(hH:H l=some (.cM xs)):xs.length<=sizeLine/\∃(its:List Value)(n:Nat),ie xs its/\xs.length=its.length/\s.heap.get? l=some {cls:=.type "list",data:=.seq its.toArray n}:=by
 obtain⟨z,its,n,r,e⟩:=I.mC l _ hH;exact⟨z,its,n,r,r.length,e⟩
def afW(h:n<=sizeLine):Builtin.List.listTooLong n=false:=by
 unfold Builtin.List.listTooLong;exact aq (by omega)
end
inductive Y9(x:V)(vs:List V)(H:Hp)(Q:VK):Prop
 |mk (l:_) (xs:_) (y:_) (_:x=.ref l) (_:vs=[y]) (_:H l=some (.cM xs)) (_:xs.length<sizeLine) (_:Q .non (bM H l (.cM (xs++[y]))))
def vQ:MtM X "list.append" Y9:=by
 intro aN s σ H x vs v us Q I rx rv h;obtain⟨l,xs,y,rfl,rfl,hH,hz,q⟩:=h
 cases rx;obtain⟨u,rfl,ru⟩:=rv.one;obtain⟨z,its,n,r,hl,e⟩:=I.aaQ hH;refine call_meets F.slot_list_append ⟨_,e,rfl⟩ F.entry_list_append (F.args_list_append_2 _ _) (PySem.list_append l its.toArray n u (by rw[bH];omega)) ⟨e,?_⟩
 refine⟨.non,_,I.afR (its':=its++[u]) hH e (by simp) (r.append (.cons ru .nil)) ?_,rfl,q⟩;rw[aF,mQ];omega
inductive Za(x:V)(vs:List V)(H:Hp)(Q:VK):Prop
 |mk (l:_) (b:_) (xs:_) (zs:_) (_:x=.ref l) (_:vs=[.ref b]) (_:H l=some (.cM xs)) (_:H b=some (.cM zs)) (_:xs.length+zs.length<=sizeLine) (_:Q .non (bM H l (.cM (xs++zs))))
def vR:MtM X "list.extend" Za:=by
 intro aN s σ H x vs v us Q I rx rv h;obtain⟨l,b,xs,zs,rfl,rfl,hH,hB,hz,q⟩:=h
 cases rx;obtain⟨u,rfl,ru⟩:=rv.one
 cases ru;obtain⟨z,its,n,r,hl,e⟩:=I.aaQ hH;obtain⟨z2,its2,n2,r2,hl2,e2⟩:=I.aaQ hB;have hsz:its.toArray.size+its2.toArray.size<=sizeLine:=by rw[bH,bH];omega
 have hlong:¬(!its.toArray.isEmpty&&Builtin.List.listTooLong (its.toArray.size+its2.toArray.size))=true:=by
  rw[afW hsz,Bool.and_false];exact aW
 refine call_meets F.slot_list_extend ⟨_,e,rfl⟩ F.entry_list_extend (F.args_list_extend_2 _ _)
  (AutoSeq1.list_extend_list_list_0 l its.toArray n b its2.toArray n2 hlong (by rw[bH];omega) (by omega)) ⟨e,e2,?_⟩
 refine⟨.non,_,I.afR (its':=its++its2) hH e (by simp) (r.append r2) ?_,rfl,q⟩;rw[aF];omega
inductive alU(x:V)(vs:List V)(H:Hp)(Q:VK):Prop
 |mk (l:_) (xs:_) (y:_) (_:x=.ref l) (_:vs=[]) (_:H l=some (.cM xs)) (_:xs[xs.length-1]? = some y) (_:Q y (bM H l (.cM xs.dropLast)))
def ajo:MtM X "list.pop" alU:=by
 intro aN s σ H x vs v us Q I rx rv h;obtain⟨l,xs,y,rfl,rfl,hH,hy,q⟩:=h
 cases rx;have hus:=rv.zero;subst hus;obtain⟨z,its,n,r,hl,e⟩:=I.aaQ hH;obtain⟨u,hu,ru⟩:=r.get hy;have hy':its.toArray[its.toArray.size-1]? = some u:=by
  show its.toArray[its.length-1]? = some u
  rw[<-eF,<-hl];exact hu
 refine call_meets F.slot_list_pop ⟨_,e,rfl⟩ F.entry_list_pop (F.args_list_pop_1 _) (MeetsSeq.list_pop_last l its.toArray n u hy' (by rw[bH];omega)) ⟨e,?_⟩
 refine⟨y,_,I.afR (its':=its.dropLast) hH e ?_ r.dropLast ?_,ru,q⟩
 . show its.toArray.eraseIdxIfInBounds (its.toArray.size-1)=its.dropLast.toArray
   rw[bH,List.eraseIdxIfInBounds_toArray,abY]
 . rw[List.length_dropLast];omega
inductive ajC(x:V)(vs:List V)(H:Hp)(Q:VK):Prop
 |mk (l:_) (xs:_) (i:_) (k:_) (y:_) (_:x=.ref l) (_:vs=[.int i]) (_:H l=some (.cM xs)) (_:-(2^63)<=i) (_:i<2^63) (_:seqIndex? i xs.length=some k) (_:xs[k]? = some y) (_:Q y (bM H l (.cM (xs.eraseIdx k))))
def afT:MtM X "list.pop" ajC:=by
 intro aN s σ H x vs v us Q I rx rv h;obtain⟨l,xs,i,k,y,rfl,rfl,hH,h1,h2,hk,hy,q⟩:=h
 cases rx;obtain⟨u,rfl,ru⟩:=rv.one;obtain⟨t,rfl⟩:=ru;obtain⟨z,its,n,r,hl,e⟩:=I.aaQ hH;obtain⟨w,hw,rw'⟩:=r.get hy;refine call_meets F.slot_list_pop ⟨_,e,rfl⟩ F.entry_list_pop (F.args_list_pop_2 _ _)
  (MeetsSeq.list_pop_at l its.toArray n i t k w (fitsIndex_both h1 h2) (by rw[bH,<-hl];exact hk) (by rw[<-eF];exact hw) (by rw[bH];omega)) ⟨e,?_⟩
 refine⟨y,_,I.afR (its':=its.eraseIdx k) hH e ?_ (r.eraseIdx k) ?_,rw',q⟩
 . show its.toArray.eraseIdxIfInBounds k=(its.eraseIdx k).toArray
   rw[List.eraseIdxIfInBounds_toArray]
 . have:=WN xs k;omega
inductive akP(x:V)(y:V)(H:Hp)(Q:VK):Prop
 |mk (l:_) (b:_) (xs:_) (zs:_) (_:x=.ref l) (_:y=.ref b) (_:H l=some (.cM xs)) (_:H b=some (.cM zs)) (_:xs.length+zs.length<=sizeLine) (_:∀p,H p=none->Q (.ref p) (bM H p (.cM (xs++zs))))
def El:Jh X (binaryOp .Add) akP:=by
 intro aN s σ H x y v u Q I rx ry h;obtain⟨l,b,xs,zs,rfl,rfl,hH,hB,hz,q⟩:=h
 cases rx
 cases ry;obtain⟨z,its,n,r,hl,e⟩:=I.aaQ hH;obtain⟨z2,its2,n2,r2,hl2,e2⟩:=I.aaQ hB;refine PySem.P.add_list e e2 ?_ (by rw[bH,bH];omega)
 have ea:its.toArray++its2.toArray=(its++its2).toArray:=by simp
 rw[ea];exact⟨.ref _,_,I.alH (t':=s.toks) (r.append r2) (by rw[aF];omega),rfl,q _ I.fresh⟩
theorem ie.aho:∀{ns:List Int}{us:List Value},ie (ns.map V.int) us->IntsAre us ns
 |[],us,h=>by
  rw[lW]at h
  cases h;exact IntsAre.nil
 |n::ns,us,h=>by
  rw[bG]at h
  cases h with
  |cons r t=>
   obtain⟨k,rfl⟩:=r;exact IntsAre.cons n k (ie.aho t)
theorem Ni:∀{us:List Value}{ns:List Int},IntsAre us ns->ie (ns.map V.int) us
 |_,_,.nil=>by rw[lW];exact Paired.nil
 |_,_,.cons n t h=>by rw[bG];exact Paired.cons (show jt (V.int n) (Value.int n t) from ⟨t,rfl⟩) (Ni h)
theorem ie.strs:∀{xs:List Str}{us:List Value},ie (xs.map V.str) us->StrsAre us xs
 |[],us,h=>by
  rw[lW]at h
  cases h;exact StrsAre.nil
 |x::xs,us,h=>by
  rw[bG]at h
  cases h with
  |cons r t=>
   obtain⟨k,rfl⟩:=r;exact StrsAre.cons x k (ie.strs t)
theorem ie.bls:∀{bs:List Bool}{us:List Value},ie (bs.map V.bl) us->us=bs.map Value.bool
 |[],us,h=>by
  rw[lW]at h
  cases h;rfl
 |b::bs,us,h=>by
  rw[bG]at h
  cases h with
  |cons r t=>
   cases r;rw[ie.bls t,bG]
def ie.akS(r:ie [V.ref a] us):us=[Value.ref a]:=by
 cases r with
 |cons r t=>
  cases t
  cases r;rfl
section
variable{ns:List Int}
def ah4(hh:A.handled=none)(hl:s.heap.IsList l its.toArray)(hi:IntsAre its ns)(h:∀h' tk t',(∀b o,s.heap.get? b=some o->h'.get? b=some o)->Q (.int ns.sum t') {s with heap:=h',toks:=tk}):wpAny (model prog w) A (call (.builtin "sum") [.ref l]) Q E s:=by
 obtain⟨xs,e⟩:=hi.allInts.items;have hn:numsOf (intItems xs).toList=ns:=by rw[<-e];exact hi.numsOf
 rw[nums_intItems]at hn;rw[e]at hl;refine PySem.sum_intListG hh hl λh' tk t' hk=>?_;have:=h h' tk t' hk;rw[preSum_eq,jO (by simp),hn];exact this
end
inductive alX(K:Fg)(vs:List V)(H:Hp)(Q:VK):Prop
 |mk (a:Addr) (ns:List Int) (_:vs=[V.ref a]) (_:fH K H a (ns.map V.int)) (_:Q (.int ns.sum) H)
def aiW(hc:X.calm=true):Lj X (.builtin "sum") (alX X.K):=by
 intro aN s σ H vs us Q I r h;obtain⟨a,ns,rfl,hs,q⟩:=h;obtain⟨its,rv,hl,_⟩:=I.list hs;rw[ie.akS r];exact ah4 (I.ok.hd hc) hl.isList rv.aho λh' tk t' hk=>⟨.int _,H,I.wK hk,⟨_,rfl⟩,q⟩
def afL{items:Array Value}(hl:s.heap.IsList l items)(h:∀s₂:Shared,s₂={s with heap:=s.heap.push {cls:=.type "list_iterator",data:=.fields #[.ref l,.int 0 0]}} ->
 (s₂.heap.IsListIter s.heap.objs.size l 0/\s₂.heap.IsList l items)->l≠s.heap.objs.size->Q (.ref s.heap.objs.size) s₂):wpAny (model prog w) A (pyIter (.ref l)) Q E s:=by
 have hlt:l<s.heap.objs.size:=by obtain⟨_,e,_⟩:=hl;exact aP e
 exact jG hl (h _ rfl ⟨⟨_,aV _ rfl,rfl,rfl⟩,hl.push _⟩ (cu hlt))
def abm{bs:List Bool}(e:its=bs.map Value.bool):
 TruthOf prog w A (λi v=>its.toArray[i]? = some v) (λi=>bs.getD i false):=λi v s Q E hv hq=>by
 have hv':its[i]? = some v:=by simpa using hv
 rw[e,bA]at hv';obtain⟨b,hb,rfl⟩:=Option.map_eq_some_iff.mp hv';have hg:bs.getD i false=b:=by rw[jZ,hb]<;>rfl
 have hq':Q (bs.getD i false) s:=hq;rw[hg]at hq';exact eG hq'
theorem ad0:∀bs:List Bool,(List.range bs.length).any (λi=>bs.getD i false)=bs.any id
 |[]=>rfl
 |b::bs=>by
  rw[bj,oZ,jL,List.any_map,jL,<-ad0 bs]
  all_goals rfl
theorem Wl:∀bs:List Bool,(List.range bs.length).all (λi=>bs.getD i false)=bs.all id
 |[]=>rfl
 |b::bs=>by
  rw[bj,oZ,jK,List.all_map,jK,<-Wl bs]
  all_goals rfl
inductive alO(K:Fg)(vs:List V)(H:Hp)(Q:VK):Prop
 |mk (a:Addr) (bs:List Bool) (_:vs=[V.ref a]) (_:fH K H a (bs.map V.bl)) (_:Q (.bl (bs.all id)) H)
def afl(hc:X.calm=true):Lj X (.builtin "all") (alO X.K):=by
 intro aN s σ H vs us Q I r h;obtain⟨a,bs,rfl,hs,q⟩:=h;obtain⟨its,rv,hl,_⟩:=I.list hs;rw[ie.akS r];have hb:=rv.bls;refine call_all_walk (afL hl.isList λs₂ e2 st hne=>?_);subst e2;refine⟨_,_,_,_,_,_,_,rfl,Walks.list (A:=X.A.in1) (I.ok.hd hc) _ a hne its.toArray,st,abm hb,λh' tk hk=>?_⟩;refine⟨.bl _,H,I.wK λb o eo=>hk b o (λhmem=>?_) (aL _ eo),?_,q⟩
 . rcases aJ.mp hmem with e1|hmem
   . exact absurd (e1▸aP eo) (gA _)
   . cases hmem
 . show Value.bool _=Value.bool _
   rw[<-Wl,hb,bH,aC]
mutual
inductive Dp (K:Fg) (H:Hp):V->PyData->Prop
 |non:Dp K H .non .none
 |bl (b:Bool):Dp K H (.bl b) (.bool b)
 |int (i:Int):Dp K H (.int i) (.int i)
 |str (x:Str):Dp K H (.str x) (.str x)
 |cM {a:Addr} {xs:List V} {ds:List PyData}:fH K H a xs->DpAll K H xs ds->Dp K H (.ref a) (.list ds)
 |tup {a:Addr} {xs:List V} {ds:List PyData}:Bx K H a xs->DpAll K H xs ds->Dp K H (.ref a) (.tuple ds)
inductive DpAll (K:Fg) (H:Hp):List V->List PyData->Prop
 |nil:DpAll K H [] []
 |cons {v:V} {vs:List V} {d:PyData} {ds:List PyData}:Dp K H v d->DpAll K H vs ds->DpAll K H (v::vs) (d::ds)
end
mutual
theorem Dp.reads (I:d8 X aN σ H s):∀(d:PyData)(v:V)(u:Value),Dp X.K H v d->jt v u->∃as,Reads s.heap u d as
 |.none,_,_,h,r=>by
  cases h
  cases r
  exact⟨_,Reads.none⟩
 |.bool b,_,_,h,r=>by
  cases h
  cases r
  exact⟨_,Reads.bool b⟩
 |.int i,_,_,h,r=>by
  cases h
  obtain⟨t,rfl⟩:=r
  exact⟨_,Reads.int i t⟩
 |.str x,_,_,h,r=>by
  cases h
  obtain⟨t,rfl⟩:=r
  exact⟨_,Reads.str x t⟩
 |.list ds,_,_,h,r=>by
  cases h with
  |cM hs ha=>
   cases r
   obtain⟨its,rv,⟨o,n,ho,hc,_,hd⟩,_⟩:=I.list hs
   obtain⟨as,hr⟩:=Dp.readsAll I ds _ its ha rv
   exact⟨_,Reads.list ho hc hd hr⟩
 |.tuple ds,_,_,h,r=>by
  cases h with
  |tup hs ha=>
   cases r
   obtain⟨its,rv,⟨o,ho,hc,n,hd⟩,_⟩:=I.tuple hs
   obtain⟨as,hr⟩:=Dp.readsAll I ds _ its ha rv
   exact⟨_,Reads.tuple ho hc hd hr⟩
 |.dict _,_,_,h,_=>by cases h
theorem Dp.readsAll (I:d8 X aN σ H s):∀(ds:List PyData)(vs:List V)(us:List Value),DpAll X.K H vs ds->ie vs us->∃as,ReadsAll s.heap us ds as
 |[],_,_,h,r=>by
  cases h
  cases r
  exact⟨_,ReadsAll.nil⟩
 |d::ds,_,_,h,r=>by
  cases h with
  |cons h1 h2=>
   cases r with
   |cons r1 r2=>
    obtain⟨as,q1⟩:=Dp.reads I d _ _ h1 r1
    obtain⟨bs,q2⟩:=Dp.readsAll I ds _ _ h2 r2
    exact⟨_,ReadsAll.cons q1 q2⟩
end
inductive akQ(K:Fg)(x:V)(y:V)(H:Hp)(Q:VK):Prop
 |mk (d:_) (e:_) (_:Dp K H x d) (_:Dp K H y e) (_:SeqAt.shaped d=true) (_:SeqAt.shaped e=true) (_:Q (.bl (PyData.eqv d e)) H)
inductive akR(K:Fg)(x:V)(y:V)(H:Hp)(Q:VK):Prop
 |mk (d:_) (e:_) (_:Dp K H x d) (_:Dp K H y e) (_:SeqAt.shaped d=true) (_:SeqAt.shaped e=true) (_:Q (.bl (!PyData.eqv d e)) H)
def TF(hu:X.A.units+64<cLine):Jh X (compareOp .Eq) (akQ X.K):=by
 intro aN s σ H x y v u Q I rx ry h;obtain⟨d,e,hd,he,sd,se,q⟩:=h;obtain⟨as,r1⟩:=Dp.reads I d x v hd rx;obtain⟨bs,r2⟩:=Dp.reads I e y u he ry;exact SeqAt.compareEq_shaped r1 r2 sd se hu ⟨.bl _,H,I,rfl,q⟩
def afZ(hu:X.A.units+64<cLine):Jh X (compareOp .NotEq) (akR X.K):=by
 intro aN s σ H x y v u Q I rx ry h;obtain⟨d,e,hd,he,sd,se,q⟩:=h;obtain⟨as,r1⟩:=Dp.reads I d x v hd rx;obtain⟨bs,r2⟩:=Dp.reads I e y u he ry;exact SeqAt.compareNe_shaped r1 r2 sd se hu ⟨.bl _,H,I,rfl,q⟩
abbrev ae0(h:Heap)(c:Addr)(v:Option Value):Prop:=h.IsCell c v
def alY(scope sc:Scope):Scope:=
 {scope with names:=scope.names.map λ(n,k)=>if (k==.free&&sc.kind==.function&&sc.names.lookup n==some .cell) then (n,.cell) else (n,k)}
def mG(cells:List (Str×Addr)):List (Str×NameKind)->List (Str×Addr)->List (Str×Addr)
 |[],acc=>acc
 |(n,k)::r,acc=>if k==.free then mG cells r ((n,(cells.lookup n).getD 0)::acc) else mG cells r acc
theorem Mh(env:Env)(f:Str×NameKind->List (Str×Addr)->Sem (ForInStep (List (Str×Addr))))(hf:∀n k c,f (n,k) c=if k==.free then (do let a <-cellOf env n;pure (.yield ((n,a)::c))) else pure (.yield c)):
 ∀(names:List (Str×NameKind)) (acc:List (Str×Addr)),(∀y∈names,y.2=.free->∃c,env.cells.lookup y.1=some c)->forIn names acc f=pure (mG env.cells names acc)
 |[],acc,_=>by rw[List.forIn_nil];rfl
 |(n,k)::r,acc,h=>by
  rw[List.forIn_cons,hf];have ih:=λacc=>Mh env f hf r acc λy hy=>h y (cJ _ hy);unfold mG;by_cases hk:(k==NameKind.free)=true
  . rw[if_pos hk,if_pos hk];obtain⟨c,hc⟩:=h (n,k) ig (by simpa using hk);have e:cellOf env n=pure c:=by unfold cellOf;rw[hc]
    rw[e];have e2:(env.cells.lookup n).getD 0=c:=by rw[hc];rfl
    rw[e2];exact ih _
  . rw[if_neg hk,if_neg hk];exact ih _
def abS(h:∀y∈scope.names,y.2=.free->∃c,env.cells.lookup y.1=some c):closureFor scope env=pure (mG env.cells scope.names []):=by
 simp only[closureFor];rw[Mh env _ (λn k c=>rfl) scope.names [] h];rfl
theorem Ky{α:Type}:∀{l:List (Str×α)} {n:Str} {c:α},(n,c)∈l->∃c',l.lookup n=some c'
 |(k,v)::r,n,c,h=>by
  rw[jW]
  cases hb:n==k with
  |true=>exact⟨_,rfl⟩
  |false=>
   rcases aJ.mp h with e|h
   . cases e;simp at hb
   . exact Ky h
theorem Bh{cells:List (Str×Addr)}:∀{names:List (Str×NameKind)} {acc:List (Str×Addr)} {n:Str} {c:Addr},(n,c)∈mG cells names acc->(n,c)∈acc\/((n,.free)∈names/\c=(cells.lookup n).getD 0)
 |[],_,_,_,h=>.inl h
 |(m,k)::r,acc,n,c,h=>by
  unfold mG at h;split at h
  . rename_i hk;have hk:k=.free:=by simpa using hk
    rcases Bh h with h|⟨h1,h2⟩
    . rcases aJ.mp h with e|h
      . cases e;exact .inr ⟨hk▸ig,rfl⟩
      . exact .inl h
    . exact .inr ⟨cJ _ h1,h2⟩
  . rcases Bh h with h|⟨h1,h2⟩
    . exact .inl h
    . exact .inr ⟨cJ _ h1,h2⟩
theorem G9{cells:List (Str×Addr)}:∀{names:List (Str×NameKind)} {acc:List (Str×Addr)} {p:Str×Addr},p∈acc->p∈mG cells names acc
 |[],_,_,h=>h
 |(m,k)::r,acc,p,h=>by
  unfold mG;split
  . exact G9 (cJ _ h)
  . exact G9 h
theorem Ha{cells:List (Str×Addr)}:∀{names:List (Str×NameKind)} {acc:List (Str×Addr)} {n:Str},(n,.free)∈names->(n,(cells.lookup n).getD 0)∈mG cells names acc
 |(m,k)::r,acc,n,h=>by
  unfold mG;rcases aJ.mp h with e|h
  . cases e;exact G9 ig
  . split
    . exact Ha h
    . exact Ha h
theorem CP:∀{names:List (Str×NameKind)} {h:Heap} {acc:List (Str×Addr)} {x:Str} {c:Addr},(x,c)∈cellsFrom h.objs.size names acc ->
 (x,c)∈acc\/((x,.cell)∈names/\h.objs.size<=c/\ae0 (pushCells h names) c none)
 |[],_,_,_,_,h=>.inl h
 |(n,k)::r,h,acc,x,c,hm=>by
  unfold cellsFrom at hm;unfold pushCells;split at hm
  . rename_i hk;rw[if_pos hk];have hk:k=.cell:=by simpa using hk
    rw[<-bT h {cls:=.type "cell",data:=.cell none}]at hm;rcases CP hm with hm|⟨h1,h2,h3⟩
    . rcases aJ.mp hm with e|hm
      . cases e;exact .inr ⟨hk▸ig,aH _,_,pushCells_keeps r _ _ _ (aV _ rfl),rfl⟩
      . exact .inl hm
    . rw[bT]at h2;exact .inr ⟨cJ _ h1,pL h2,h3⟩
  . rename_i hk;rw[if_neg hk];rcases CP hm with hm|⟨h1,h2,h3⟩
    . exact .inl hm
    . exact .inr ⟨cJ _ h1,h2,h3⟩
theorem IK:∀{names:List (Str×NameKind)} {n:Nat} {acc:List (Str×Addr)} {p:Str×Addr},p∈acc->p∈cellsFrom n names acc
 |[],_,_,_,h=>h
 |(m,k)::r,n,acc,p,h=>by
  unfold cellsFrom;split
  . exact IK (cJ _ h)
  . exact IK h
theorem NP:∀{names:List (Str×NameKind)} {n:Nat} {acc:List (Str×Addr)} {x:Str},(x,.cell)∈names->∃c,(x,c)∈cellsFrom n names acc
 |(m,k)::r,n,acc,x,h=>by
  unfold cellsFrom;rcases aJ.mp h with e|h
  . cases e;exact⟨n,IK ig⟩
  . split
    . exact NP h
    . exact NP h
theorem NQ:∀{names:List (Str×NameKind)} {h:Heap} {acc:List (Str×Addr)} {x y:Str} {c:Addr},(∀p∈acc,p.2<h.objs.size)->(∀x y c,(x,c)∈acc->(y,c)∈acc->x=y) ->
 (x,c)∈cellsFrom h.objs.size names acc->(y,c)∈cellsFrom h.objs.size names acc->x=y
 |[],_,_,_,_,_,_,hi,h1,h2=>hi _ _ _ h1 h2
 |(n,k)::r,h,acc,x,y,c,hl,hi,h1,h2=>by
  unfold cellsFrom at h1 h2;split at h1
  . rename_i hk;rw[if_pos hk]at h2;rw[<-bT h {cls:=.type "cell",data:=.cell none}]at h1 h2;refine NQ (h:=h.push _) (λp hp=>?_) (λx y c a b=>?_) h1 h2
    . rw[bT];rcases aJ.mp hp with rfl|hp
      . exact jX _
      . exact jE (hl p hp)
    . rcases aJ.mp a with e|a<;>rcases aJ.mp b with e'|b
      . cases e;cases e';rfl
      . cases e;exact absurd (hl _ b) (gA _)
      . cases e';exact absurd (hl _ a) (gA _)
      . exact hi _ _ _ a b
  . rename_i hk;rw[if_neg hk]at h2;exact NQ hl hi h1 h2
def aaU{M:Model}{globals:Addr}{closure:List (Str×Addr)}{qual:Str}{func:Option Addr}{code:Value}{around:Env}{builtins:Addr}{Q:Env->Shared->Prop}(h:Q (newEnv scope s.heap.objs.size globals (cellsFrom (s.heap.objs.size+1) scope.names closure) qual func code (some around) builtins)
 {s with heap:=pushCells (s.heap.push {cls:=.type "dict",data:=.dict #[]}) scope.names}):
 wpAny M A (newFunctionEnv scope globals closure [] qual func code (some around) builtins) Q E s:=by
 simp only[newFunctionEnv,Option.isSome_some,rB];refine aj (wpAny_alloc ?_);refine aj (wpAny_layCells _ (λn k c=>rfl) scope.names closure _ _ ?_);rw[show ({s with heap:=s.heap.push {cls:=.type "dict",data:=.dict #[]}}:Shared).heap.objs.size=s.heap.objs.size+1 from bT ..];rw[List.forIn_nil];exact aj (aA (aA h))
theorem Hi{sc:Scope}:∀{names:List (Str×NameKind)} {x:Str} {k:NameKind},
 (names.map λ(n,k)=>if (k==NameKind.free&&sc.kind==.function&&sc.names.lookup n==some .cell) then (n,NameKind.cell) else (n,k)).lookup x=some k ->
 ∃k',names.lookup x=some k'/\(k=k'\/(k'=.free/\k=.cell))
 |[],_,_,h=>by simp at h
 |(n,k₀)::r,x,k,h=>by
  have ih:=@Hi sc r x k;have h':List.lookup x ((if (k₀==NameKind.free&&sc.kind==.function&&sc.names.lookup n==some .cell)=true then (n,NameKind.cell) else (n,k₀))::(r.map _))=some k:=h
  cases hx:x==n with
  |true=>
   simp only[jW,hx];by_cases hc:(k₀==NameKind.free&&sc.kind==.function&&sc.names.lookup n==some .cell)=true
   . rw[if_pos hc]at h';simp only[jW,hx]at h'
     cases h';simp only[bQ,je]at hc;exact⟨k₀,rfl,.inr ⟨hc.1.1,rfl⟩⟩
   . rw[if_neg hc]at h';simp only[jW,hx]at h'
     cases h';exact⟨_,rfl,.inl rfl⟩
  |false=>
   simp only[jW,hx];by_cases hc:(k₀==NameKind.free&&sc.kind==.function&&sc.names.lookup n==some .cell)=true
   . rw[if_pos hc]at h';simp only[jW,hx]at h';exact ih h'
   . rw[if_neg hc]at h';simp only[jW,hx]at h';exact ih h'
structure Z3(N:List Str)(sc scope:Scope)(own:List (Str×Nat)):Prop where
 kind:scope.kind=.function
 ajZ:∀y∈scope.names,scope.names.lookup y.1=some y.2
 ix:∀p∈own,N[p.2]? = some p.1
 free:∀y∈scope.names,y.2=.free->sc.names.lookup y.1=some .cell\/sc.names.lookup y.1=some .free
 own:∀y∈scope.names,y.2=.local\/y.2=.cell->y.1∈own.map (·.1)\/y.1∉N
def wipe(σ:St):List Nat->St
 |[]=>σ
 |v::vs=>(wipe σ vs).set v none
theorem Iv(σ:St):∀vs:List Nat,(wipe σ vs).length=σ.length
 |[]=>rfl
 |v::vs=>by unfold wipe;rw[List.length_set,Iv σ vs]
theorem Pj{σ:St}{i:Nat}{x:V}:∀{vs:List Nat},(wipe σ vs)[i]? = some (some x)->σ[i]? = some (some x)/\i∉vs
 |[],h=>⟨h,by simp⟩
 |v::vs,h=>by
  unfold wipe at h;by_cases hi:v=i
  . subst hi;by_cases hv:v<(wipe σ vs).length
    . rw[oY hv]at h;cases h
    . rw[gQ (by simpa using hv)]at h;cases h
  . rw[qC hi]at h;obtain⟨h1,h2⟩:=Pj h;exact⟨h1,by simp only[aJ,not_or];exact⟨λe=>hi e.symm,h2⟩⟩
abbrev Cx.Gj(X:Cx)(s:Shared)(H:Hp)(scope:Scope)(cenv:Env)(fp:List Addr):Cx:={X with s₀:=s,H₀:=H,env:=cenv,fO:=X.stack,ex:=fp,fn:=λx=>scope.names.lookup x==some .cell,pn:=[],xe:=λ_ _=>False}
def aas{own:List (Str×Nat)}(I:d8 X aN σ H s)(ok:Z3 X.N X.env.scope scope own)(hN:X.N.Nodup)(hfp:∀b∈fp,RL X aN H b/\b<s.heap.objs.size):
 d8 (X.Gj s H scope (compEnvC scope (cellsFrom (s.heap.objs.size+1) scope.names (mG X.env.cells scope.names [])) s.heap.objs.size X.env) fp) [] (wipe σ (own.map (·.2))) H {s with heap:=pushCells (s.heap.push {cls:=.type "dict",data:=.dict #[]}) scope.names}:=by
 have hfree:∀y∈scope.names,y.2=.free->∃c,X.env.cells.lookup y.1=some c:=λy hy e=>by
  rcases ok.free y hy e with k|k
  . exact I.ok.has _ (.inl k)
  . exact I.ok.has _ (.inr k)
 generalize hcenv:compEnvC scope (cellsFrom (s.heap.objs.size+1) scope.names (mG X.env.cells scope.names [])) s.heap.objs.size X.env=cenv;have kp:∀b o,s.heap.get? b=some o->(pushCells (s.heap.push {cls:=.type "dict",data:=.dict #[]}) scope.names).get? b=some o:=λb o e=>pushCells_keeps _ _ _ _ (aL _ e);have hL:cenv.locals=s.heap.objs.size:=by rw[<-hcenv];rfl
 have hcl:cenv.cells=cellsFrom (s.heap.objs.size+1) scope.names (mG X.env.cells scope.names []):=by rw[<-hcenv];rfl
 have hsc:cenv.scope=alY scope X.env.scope:=by rw[<-hcenv];rfl
 rw[<-bT s.heap {cls:=.type "dict",data:=.dict #[]}]at hcl;have cm:∀{y c},(y,c)∈mG X.env.cells scope.names []->X.env.cells.lookup y=some c/\c<s.heap.objs.size:=fun {y c} hm=>by
  rcases Bh hm with hm|⟨h1,rfl⟩
  . cases hm
  . obtain⟨c,hc⟩:=hfree _ h1 rfl;rw[hc];obtain⟨w,z⟩:=I.cell _ _ hc;exact⟨rfl,z.lt⟩
 have mem:∀{y c},cenv.cells.lookup y=some c->(X.env.cells.lookup y=some c/\c<s.heap.objs.size)\/(s.heap.objs.size+1<=c/\ae0 (pushCells (s.heap.push {cls:=.type "dict",data:=.dict #[]}) scope.names) c none):=fun {y c} e=>by
  rw[hcl]at e;rcases CP (dq e) with hm|⟨_,h2,h3⟩
  . exact .inl (cm hm)
  . rw[bT]at h2;exact .inr ⟨h2,h3⟩
 have aex:∀{y},scope.names.lookup y=some .free->∃c,cenv.cells.lookup y=some c/\X.env.cells.lookup y=some c:=fun {y} hl=>by
  have hy:(y,NameKind.free)∈scope.names:=dq hl;obtain⟨c',e'⟩:=Ky (IK (names:=scope.names) (n:=(s.heap.push {cls:=.type "dict",data:=.dict #[]}).objs.size) (Ha (cells:=X.env.cells) (acc:=[]) hy));rw[<-hcl]at e';refine⟨c',e',?_⟩;rw[hcl]at e';rcases CP (dq e') with hm|⟨h1,_,_⟩
  . exact(cm hm).1
  . have:=ok.ajZ _ h1;rw[hl]at this;cases this
 have okB:(X.Gj s H scope cenv fp).Ok:=by
  refine⟨I.ok.S8,by show cenv.scope.kind=_;rw[hsc];exact ok.kind,by show cenv.globals=_;rw[<-hcenv];exact I.ok.SJ,by show cenv.builtins=_;rw[<-hcenv];exact I.ok.blt,by show s.heap.objs.size<=cenv.locals;rw[hL];exact aH _,
   λy z c e1 e2=>?_,λy hy=>?_,λy c z e=>?_,I.ok.hd,I.ok.frames,.inl rfl,λb hb=>⟨?_,λy c e z=>?_⟩,I.bs,cG I.ok.bsz I.sz,λb o e hb=>?_,λb hb z=>?_,I.stack,I.ZD⟩
  . have e1:cenv.cells.lookup y=some c:=e1;have e2:cenv.cells.lookup z=some c:=e2;rw[hcl]at e1 e2;refine NQ (λp hp=>?_) (λy z c a b=>I.ok.inj y z c (cm a).1 (cm b).1) (dq e1) (dq e2);rw[bT];exact jE (cm (y:=p.1) (c:=p.2) hp).2
  . show ∃c,cenv.cells.lookup y=some c
    have key:∀k,cenv.kindOf y=some k->(k=.cell\/k=.free)->∃c,cenv.cells.lookup y=some c:=λk hk hk'=>by
     unfold Env.kindOf at hk;rw[hsc]at hk;obtain⟨k',e,r⟩:=Hi hk;have:k'=.cell\/k'=.free:=by
      rcases r with rfl|⟨rfl,_⟩
      . exact hk'
      . exact .inr rfl
     rcases this with rfl|rfl
     . obtain⟨c,hm⟩:=NP (n:=(s.heap.push {cls:=.type "dict",data:=.dict #[]}).objs.size) (acc:=mG X.env.cells scope.names []) (dq e);obtain⟨c',e'⟩:=Ky hm;exact⟨c',by rw[hcl];exact e'⟩
     . obtain⟨c,h1,_⟩:=aex e;exact⟨c,h1⟩
    rcases hy with hy|hy
    . exact key _ hy (.inl rfl)
    . exact key _ hy (.inr rfl)
  . have z:(scope.names.lookup y==some NameKind.cell)=true:=z;have z:scope.names.lookup y=some .cell:=by simpa using z
    have e:cenv.cells.lookup y=some c:=e;rw[hcl]at e;rcases CP (dq e) with hm|⟨_,h2,_⟩
    . rcases Bh hm with hm|⟨h1,_⟩
      . cases hm
      . have q:=ok.ajZ _ h1;rw[z]at q;cases q
    . rw[bT]at h2;exact pL h2
  . show b≠cenv.locals
    rw[hL];exact cu (hfp b hb).2
  . have e:cenv.cells.lookup y=some c:=e;rcases mem e with⟨h1,_⟩|⟨h1,_⟩
    . exact(hfp b hb).1.2.2.2.2.1 y c h1 z
    . have h2:s.heap.objs.size+1<=b:=by rw[<-z];exact h1
      exact absurd (bZ (hfp b hb).2 (pL h2)) (gA _)
  . rcases (hfp b hb).1.2.2.2.1 with z|z
    . exact I.ok.acg b o e z
    . exact absurd (bZ (aP e) (cG I.ok.bsz z)) (gA _)
  . rcases aJ.mp (I.acH b z) with z|z
    . exact(hfp b hb).1.2.1 z
    . exact(hfp b hb).1.2.2.1 z
 refine⟨okB,rfl,I.bare,Un.wK kp,⟨λ_=>none,?_,λi y av e1 e2 e3=>?_⟩,λy c e=>?_,?_,λy c e=>?_,λp hp=>?_,I.mC.wK kp,by rw[Iv];exact I.len⟩
 . show Heap.Ns _ cenv.locals _
   rw[hL];exact Heap.Ns.keeps (Heap.Ns.new ..) λb o e=>pushCells_keeps _ _ _ _ e
 . obtain⟨e2,hne⟩:=Pj e2;have hfr:scope.names.lookup y=some .free/\(cenv.kindOf y=some .cell\/cenv.kindOf y=some .free):=by
    have key:∀k,cenv.scope.names.lookup y=some k->k=.local\/k=.cell\/k=.free->scope.names.lookup y=some .free/\(cenv.kindOf y=some .cell\/cenv.kindOf y=some .free):=λk hk hk'=>by
     have hk0:=hk;rw[hsc]at hk;obtain⟨k',e,r⟩:=Hi hk;have no:¬(k'=.local\/k'=.cell):=λhh=>by
      rcases ok.own _ (dq e) hh with e'|e'
      . obtain⟨p,hp,hpy⟩:=fL.mp e';have e3:=ok.ix p hp;have:p.1=y:=hpy;rw[this]at e3;exact hne (fL.mpr ⟨p,hp,Tf hN e3 e1⟩)
      . exact e' (cD e1)
     rcases r with rfl|⟨rfl,rfl⟩
     . rcases hk' with rfl|rfl|rfl
       . exact absurd (.inl rfl) no
       . exact absurd (.inr rfl) no
       . exact⟨e,.inr hk0⟩
     . exact⟨e,.inl hk0⟩
    have e3:Vis cenv.scope y:=e3;rcases e3 with e3|e3|e3
    . exact key _ e3 (.inl rfl)
    . exact key _ e3 (.inr (.inl rfl))
    . exact key _ e3 (.inr (.inr rfl))
   obtain⟨m,hn,hl⟩:=I.PL;have hvis:Vis X.env.scope y:=(ok.free _ (dq hfr.1) rfl).elim (λk=>.inr (.inl k)) (λk=>.inr (.inr k));obtain⟨w,r,q⟩:=hl i y av e1 e2 hvis;refine⟨w,r,.inr ⟨hfr.2,?_⟩⟩;obtain⟨c,h1,h2⟩:=aex hfr.1;rcases q with⟨k,_⟩|⟨_,c',e',z⟩
   . have k:X.env.scope.names.lookup y=some .local:=k;rcases ok.free _ (dq hfr.1) rfl with k'|k'<;>rw[show X.env.scope.names.lookup y=_ from k']at k<;>cases k
   . rw[h2]at e';cases e';exact⟨c,h1,z.keeps kp⟩
 . have e:cenv.cells.lookup y=some c:=e;rcases mem e with⟨h1,_⟩|⟨_,z⟩
   . obtain⟨w,z⟩:=I.cell y c h1;exact⟨w,z.keeps kp⟩
   . exact⟨_,z⟩
 . show H cenv.locals=none
   rw[hL];exact I.mC.fresh (aH _)
 . have e:cenv.cells.lookup y=some c:=e;rcases mem e with⟨h1,_⟩|⟨h1,_⟩
   . exact I.tD y c h1
   . exact I.mC.fresh (pL h1)
 . exact absurd (show p∈([]:List (Addr×Obj))++[] from hp) (by simp)
def aiM{D:Addr}{v:Value}(I:d8 X aN σ H s)(hD:H D=some (.cM xs))(hz:xs.length<sizeLine)(r:jt y v)(h:∀s',d8 X aN σ (bM H D (.cM (xs++[y]))) s'->Q .none s'):wpAny (model X.prog X.w) X.A (call (.builtin "list.append") [.ref D,v]) Q E s:=by
 obtain⟨hz',its,n,ri,e⟩:=I.mC D _ hD;have hl:=ri.length;refine append_at (hsz:=by rw[bH];omega) e λh' sb ho'=>?_
 refine h {s with heap:=h'} (I.Nj (t':=s.toks) (by rw[hD];trivial) (.inl rfl) (λb u hb q=>(sb.2 b hb).trans q) ⟨_,ho'⟩ ⟨by rw[aF];exact hz,its++[v],n+1,ri.append (.cons r .nil),?_⟩)
 rw[ho'];simp
def PTs(X:Cx)(ifs:List Expr)(t:TT):Prop:=
 ∀(aN:List (Addr×Obj)) (s:Shared) (σ:St) (H:Hp) (Q:Bool->Hp->Prop),d8 X aN σ H s->t σ H Q ->
  wpAny (model X.prog X.w) X.A (forIn ifs true λc r=>if r=true then do let ok <-isTrue c X.env (eval c X.env);pure (ForInStep.yield ok) else pure (ForInStep.yield r)) (TP X aN σ Q) X.xe s
def al5:TT:=λ_ H Q=>Q true H
def Br:PTs X [] al5:=λ_ _ _ H _ I h=>wpAny_tests_nil ⟨H,I,h⟩
def aeP{α:Type}{t:Sem α}{Q Q':α->Shared->Prop}{M:Model}(h:wpAny M A t Q (λ_ _=>False) s)(hQ:∀a s,Q a s->Q' a s):wpAny M A t Q' E s:=dj h hQ λ_ _ z=>False.elim z
theorem Ye{R:Result->Shared->Prop}{target:Expr}{it acc:Value}(I:Nat->Shared->Prop)(turn:∀n s,I n s->wpAny (model prog w) A (pyNext it) (λr s₁=>match r with
 |none=>R (.ok .next) s₁
 |some v=>wpAny (model prog w) A (letOwnedTupleGo target it v) (λ_ s₁'=>wpAny (model prog w) A (assign target env v) (λ_ s₂=>
  wpAny (model prog w) A (forIn ifs true λc r=>if r=true then do let ok <-isTrue c env (eval c env);pure (ForInStep.yield ok) else pure (ForInStep.yield r)) (λok s₃=>
   if ok=true then wpAny (model prog w) A (eval elt env) (λx s₄=>
    wpAny (model prog w) A (call (.builtin "list.append") [acc,x]) (λ_ s₅=>∃m,m<n/\I m s₅) (notedBy (model prog w) A env λe s'=>R (.error e) s') s₄) (notedBy (model prog w) A env λe s'=>R (.error e) s') s₃
   else ∃m,m<n/\I m s₃) (notedBy (model prog w) A env λe s'=>R (.error e) s') s₂) (notedBy (model prog w) A env λe s'=>R (.error e) s') s₁') (notedBy (model prog w) A env λe s'=>R (.error e) s') s₁) (notedBy (model prog w) A env λe s'=>R (.error e) s') s)(n:Nat)(h:I n s):
 codeAny (model prog w) A (.compLoop (.ListComp elt [⟨target,iter,ifs,0⟩] scope pos) 0 it acc env) R s:=by
 refine codeAny_loop rfl I (λn s hI=>?_) n h;show wpAny _ A ((compTurn (.ListComp elt [⟨target,iter,ifs,0⟩] scope pos) 0 it acc env).onRaise (λx=>do noteFrame x env;theTreesLotGoes x)) _ _ s
 refine wpAny_noted ?_;rw[compTurn_list];refine aj (wpAny_standAt (aj (dj (turn n s hI) (λr s₁ h₁=>?_) λ_ _ h'=>h')))
 cases r with
 |none=>exact aA h₁
 |some v=>
  refine aj (dj h₁ (λ_ s₁' h₁'=>?_) λ_ _ h'=>h');refine aj (dj h₁' (λ_ s₂ h₂=>aj (dj h₂ (λok s₃ h₃=>?_) λ_ _ h'=>h')) λ_ _ h'=>h')
  cases ok with
  |false=>exact aA ⟨rfl,h₃⟩
  |true=>
   exact aj (aj (dj h₃ (λx s₄ h₄=>aj (dj h₄ (λ_ s₅ h₅=>aA (aA ⟨rfl,h₅⟩)) λ_ _ h'=>h')) λ_ _ h'=>h'))
def tLc(wi:TI)(g:TG)(tt:TT)(te:TE)(vs:List Nat):TE:=λσ H Q=>wi σ H λJ H1=>∀D,H1 D=none->∃W:Nat->Nat->Hp->Prop,(∃m,W 0 m (bM H1 D (.cM [])))/\∀i m H,W i m H ->
 (J.Im i H/\Q (.ref D) H)\/(J.go i H/\∃Nx:Hp->Prop,(∀H',Nx H'->∃m',m'<m/\W (i+1) m' H')/\∀x H',J.yld i H x H'->g x (wipe σ vs) H' λσ2 H2=>wipe σ2 vs=wipe σ vs/\tt σ2 H2 λb H3=>
   if b=true then te σ2 H3 λy H4=>∃acc,H4 D=some (.cM acc)/\acc.length<sizeLine/\Nx (bM H4 D (.cM (acc++[y]))) else Nx H3)
def adm{Q:VK}{own:List (Str×Nat)}{wi:TI}{use:Option (Value->Sem Unit)}{Qf:Value->Shared->Prop}(hc:X.calm=true)(hN:X.N.Nodup)(I:d8 X aN σ H s)(hi:PI X tg iter wi)(ok:Z3 X.N X.env.scope scope own)(hg:∀(s:Shared) (H:Hp) (C:Addr) (cl:List (Str×Addr)) (fp:List Addr),PG (X.Gj s H scope (compEnvC scope cl C X.env) fp) tg g)(ht:∀(s:Shared) (H:Hp) (C:Addr) (cl:List (Str×Addr)) (fp:List Addr),PTs (X.Gj s H scope (compEnvC scope cl C X.env) fp) ifs tt)(he:∀(s:Shared) (H:Hp) (C:Addr) (cl:List (Str×Addr)) (fp:List Addr),PE (X.Gj s H scope (compEnvC scope cl C X.env) fp) elt te)(hs:∀x,foldedSetIterable iter X.env x=pure x)(h:tLc wi g tt te (own.map (·.2)) σ H Q)(hRR:∀D C s' m H',d8 X aN σ H' s'->Q (.ref D) H'->s'.heap.Ns C m->RL X aN H' C->compPost (model X.prog X.w) X.A X.xe use Qf (.ref D) C (.ok .next) s'):
 wpAny (model X.prog X.w) X.A (comprehension (.ListComp elt [⟨tg,iter,ifs,0⟩] scope pos) scope X.env pos' (newList []) false (eval iter X.env) use) Qf X.xe s:=by
 have hfree:∀y∈scope.names,y.2=.free->∃c,X.env.cells.lookup y.1=some c:=λy hy e=>by
  rcases ok.free y hy e with k|k
  . exact I.ok.has _ (.inl k)
  . exact I.ok.has _ (.inr k)
 refine wpAny_comprehension_free (use:=use) rfl hs (abS hfree) ok.kind (λy hy e=>by rw[ok.ajZ y hy,e])
  (nO (hi aN s σ H _ I h) λxv s1 hx=>nO hx λitv s2 h2=>?_)
 obtain⟨it,fp,tn,J,H2,e,I2,T,st2,f2,q⟩:=h2;subst e;refine dJ (aaU ?_) (by show 0<=sizeLine;decide)
 generalize hD:s2.heap.objs.size=D;have hDn:H2 D=none:=I2.mC.fresh (Nat.le_of_eq hD);obtain⟨W,⟨m0,w0⟩,turn⟩:=q D hDn;generalize hs3:({s2 with heap:=s2.heap.push {cls:=.type "list",data:=.seq ([]:List Value).toArray}}:Shared)=s3;have I3:d8 X aN σ (bM H2 D (.cM [])) s3:=by
  rw[<-hs3];refine I2.laid (t':=s2.toks) (λb o e=>aL _ e) (Nat.le_of_eq hD) ⟨bW _,[],0,.nil,?_⟩;rw[<-hD];exact aV _ rfl
 have h3:s3.heap=s2.heap.push {cls:=.type "list",data:=.seq ([]:List Value).toArray}:=by rw[<-hs3]
 have sz:∀b∈fp,b<s2.heap.objs.size:=λb hb=>by
  obtain⟨o,e,_⟩:=T.obj _ _ st2 b hb;exact aP e
 have f3:∀b∈fp,RL X aN (bM H2 D (.cM [])) b/\b<s3.heap.objs.size:=λb hb=>by
  have hlt:=sz b hb;refine⟨⟨?_,(f2 b hb).2⟩,by rw[h3,bT];exact jE hlt⟩
  rw[aM (by rw[<-hD];exact cu hlt)]
  exact(f2 b hb).1
 have st3:tn 0 s3.heap:=T.keep _ _ _ st2 λb _ o e=>by rw[h3];exact aL _ e
 have I4:=aas I3 ok hN f3;have pg:=hg s3 (bM H2 D (.cM [])) s3.heap.objs.size (cellsFrom (s3.heap.objs.size+1) scope.names (mG X.env.cells scope.names [])) fp;have pt:=ht s3 (bM H2 D (.cM [])) s3.heap.objs.size (cellsFrom (s3.heap.objs.size+1) scope.names (mG X.env.cells scope.names [])) fp;have pe:=he s3 (bM H2 D (.cM [])) s3.heap.objs.size (cellsFrom (s3.heap.objs.size+1) scope.names (mG X.env.cells scope.names [])) fp;show codeAny _ _ (.compStart (.ListComp elt [⟨tg,iter,ifs,0⟩] scope pos) 0 (.ref it) (.ref D) (compEnvC scope (cellsFrom (s3.heap.objs.size+1) scope.names (mG X.env.cells scope.names [])) s3.heap.objs.size X.env)) (compPost (model X.prog X.w) X.A X.xe use Qf (.ref D) s3.heap.objs.size) {s3 with heap:=pushCells (s3.heap.push {cls:=.type "dict",data:=.dict #[]}) scope.names}
 have nfp:∀b∈fp,(bM H2 D (.cM [])) b=none:=λb hb=>(f3 b hb).1.1;generalize hce:compEnvC scope (cellsFrom (s3.heap.objs.size+1) scope.names (mG X.env.cells scope.names [])) s3.heap.objs.size X.env=ce at I4 pg pt pe ⊢;have cL:ce.locals=s3.heap.objs.size:=by subst hce;rfl
 generalize hH3:bM H2 D (.cM [])=H3 at I3 I4 pg pt pe w0 nfp f3;generalize hs4:({s3 with heap:=pushCells (s3.heap.push {cls:=.type "dict",data:=.dict #[]}) scope.names}:Shared)=s4 at I4 ⊢;have st4:tn 0 s4.heap:=T.keep _ _ _ st3 λb _ o e=>by rw[<-hs4];exact pushCells_keeps _ _ _ _ (aL _ e)
 have stat:∀{σ':St}{H':Hp}{s':Shared},d8 (X.Gj s3 H3 scope ce fp) [] σ' H' s'->(∀b∈fp,H' b=none)->∀b∈fp,RL (X.Gj s3 H3 scope ce fp) [] H' b:=fun {σ' H' s'} I' hn b hb=>
  ⟨hn b hb,(I'.ok.exf b hb).1,I'.ok.aaH b hb,.inl hb,λx c e=>(I'.ok.exf b hb).2 x c e,λp hp=>absurd (show p∈([]:List (Addr×Obj))++[] from hp) (by simp)⟩
 have loop:codeAny (model X.prog X.w) X.A (.compLoop (.ListComp elt [⟨tg,iter,ifs,0⟩] scope pos) 0 (.ref it) (.ref D) ce) (compPost (model X.prog X.w) X.A X.xe use Qf (.ref D) s3.heap.objs.size) s4:=by
  refine Ye (λn s'=>∃i H',d8 (X.Gj s3 H3 scope ce fp) [] (wipe σ (own.map (·.2))) H' s'/\tn i s'.heap/\(∀b∈fp,H' b=none)/\W i n H') ?_ m0 ⟨0,H3,I4,st4,nfp,w0⟩;rintro n s5 ⟨i,H5,I5,st5,n5,w5⟩;rcases turn i n H5 w5 with⟨Im,qq⟩|⟨go,Nx,hNx,step⟩
  . have td:=T.done (X.Gj s3 H3 scope ce fp) rfl rfl rfl hc i [] s5 _ H5 (λ_ _=>False) I5 (stat I5 n5) st5 Im;refine aeP td λr s6 ⟨hr,I6⟩=>?_;subst hr;have I7:d8 X aN σ H5 s6:=I3.afg (ch:=fp) I6.os I6.base I6.mC I6.bare λb hb=>⟨(f3 b hb).1.2.2.2.1,(f3 b hb).1.2.1,(f3 b hb).1.2.2.2.2.1,(f3 b hb).1.2.2.2.2.2⟩;have nC:H5 s3.heap.objs.size=none:=by
     have z:H5 ce.locals=none:=I6.free;rw[cL]at z;exact z
    obtain⟨m,hn,_⟩:=I6.PL;have hn:s6.heap.Ns ce.locals m:=hn;rw[cL]at hn;exact hRR D s3.heap.objs.size s6 m H5 I7 qq hn (I3.ab0 (aH _) nC)
  . have ti:=T.item (X.Gj s3 H3 scope ce fp) rfl rfl rfl hc i [] s5 _ H5 (λ_ _=>False) I5 (stat I5 n5) st5 go;refine aeP ti λr s6 ⟨u,hr,h6⟩=>?_;subst hr;refine aeP h6 λ_ s7 ⟨x,H7,I7,r7,y7,st7,n7⟩=>?_;have I7':=I7.aga (stat I7 n7) (T.obj _ _ st7);refine aeP (pg _ s7 _ H7 x u _ I7' r7 (step x H7 y7)) λ_ s8 ⟨σ8,H8,I8,hw8,q8⟩=>?_;refine aeP (pt _ s8 σ8 H8 _ I8 q8) λb s9 ⟨H9,I9,q9⟩=>?_;have fin:∀{s':Shared}{H':Hp},d8 (X.Gj s3 H3 scope ce fp) ([]++T6 fp s7.heap) σ8 H' s'->Nx H'->∃m,m<n/\∃i H',d8 (X.Gj s3 H3 scope ce fp) [] (wipe σ (own.map (·.2))) H' s'/\tn i s'.heap/\(∀b∈fp,H' b=none)/\W i m H':=fun {s' H'} I' nx=>by
     obtain⟨m',hm,w'⟩:=hNx H' nx;have pin':∀b∈fp,∀o,s7.heap.get? b=some o->s'.heap.get? b=some o/\H' b=none:=λb hb o e=>
      let z:=I'.Qc (b,o) (cF _ (cF _ (Kz hb e)))
      ⟨z.1,z.2.1⟩
     have hl:(wipe σ (own.map (·.2))).length=σ8.length:=by rw[<-hw8,Iv]
     refine⟨m',hm,i+1,H',(I'.Nh (aN:=[])).al8 hl (λj v e=>?_),T.keep _ _ _ st7 λb hb o e=>(pin' b hb o e).1,λb hb=>?_,w'⟩
     . rw[<-hw8]at e;exact(Pj e).1
     . obtain⟨o,e,_⟩:=T.obj _ _ st7 b hb;exact(pin' b hb o e).2
    cases b with
    |false=>
     simp only[Bool.false_eq_true,if_false]at q9 ⊢;exact fin I9 q9
    |true=>
     simp only[rB]at q9 ⊢;refine aeP (pe _ s9 σ8 H9 _ I9 q9) λz s10 ⟨yv,H10,I10,r10,acc,hD10,hz10,nx⟩=>?_;exact aiM (X:=X.Gj s3 H3 scope ce fp) I10 hD10 hz10 r10 λs11 I11=>fin I11 nx
 exact codeAny_compStart_list loop (T.self X.A 0 _ _ _ st4 loop)
def T4{own:List (Str×Nat)}{wi:TI}(hc:X.calm=true)(hN:X.N.Nodup)(hi:PI X tg iter wi)(ok:Z3 X.N X.env.scope scope own)(hg:∀(s:Shared) (H:Hp) (C:Addr) (cl:List (Str×Addr)) (fp:List Addr),PG (X.Gj s H scope (compEnvC scope cl C X.env) fp) tg g)(ht:∀(s:Shared) (H:Hp) (C:Addr) (cl:List (Str×Addr)) (fp:List Addr),PTs (X.Gj s H scope (compEnvC scope cl C X.env) fp) ifs tt)(he:∀(s:Shared) (H:Hp) (C:Addr) (cl:List (Str×Addr)) (fp:List Addr),PE (X.Gj s H scope (compEnvC scope cl C X.env) fp) elt te)(hs:∀x,foldedSetIterable iter X.env x=pure x:=by intro _;rfl):
 PE X (.ListComp elt [⟨tg,iter,ifs,0⟩] scope pos) (tLc wi g tt te (own.map (·.2))):=by
 intro aN s σ H Q I h;rw[eval_ListComp];refine adm hc hN I hi ok hg ht he hs h λD C s' m H' I' q hn f=>⟨m,hn,λh'' sb=>?_⟩;obtain⟨f0,f1,f2,f3,f4,f5⟩:=f;exact⟨.ref D,H',I'.ud (t':=s'.toks) (λb o hb e=>(sb.2 b hb).trans e) f0 f1 f3 f4 f5,rfl,q⟩
def agd{y:Str}{py:Pos}{own:List (Str×Nat)}{spos:Pos}{wi:TI}(hc:X.calm=true)(hN:X.N.Nodup)(hy:X.N[i]? = some y)(hyl:X.env.scope.names.lookup y=some .local)(hsw:swapsWith (.ListComp elt [⟨tg,iter,ifs,0⟩] scope pos) (some (.Name y py)) spos.line X.env=pure true)(hi:PI X tg iter wi)(ok:Z3 X.N X.env.scope scope own)(hg:∀(s:Shared) (H:Hp) (C:Addr) (cl:List (Str×Addr)) (fp:List Addr),PG (X.Gj s H scope (compEnvC scope cl C X.env) fp) tg g)(ht:∀(s:Shared) (H:Hp) (C:Addr) (cl:List (Str×Addr)) (fp:List Addr),PTs (X.Gj s H scope (compEnvC scope cl C X.env) fp) ifs tt)(he:∀(s:Shared) (H:Hp) (C:Addr) (cl:List (Str×Addr)) (fp:List Addr),PE (X.Gj s H scope (compEnvC scope cl C X.env) fp) elt te)(hs:∀x,foldedSetIterable iter X.env x=pure x:=by intro _;rfl):
 PS X (.Assign [.Name y py] (.ListComp elt [⟨tg,iter,ifs,0⟩] scope pos) spos) (agH (tLc wi g tt te (own.map (·.2))) (Bp i)):=by
 intro aN s σ H D I h;rw[exec_Assign_Name_used _ _ _ _ hsw];refine aj (wpAny_standAt (aj ?_));show wpAny _ X.A (do let _ <-comprehension (.ListComp elt [⟨tg,iter,ifs,0⟩] scope pos) scope X.env (firstIterPos [⟨tg,iter,ifs,0⟩] pos) (newList []) false (eval iter X.env) (some (assign (.Name y py) X.env))) _ _ s
 have h:tLc wi g tt te (own.map (·.2)) σ H (λx H1=>Bp i x σ H1 D.nx):=h;refine aj (nO (adm (Qf:=λ_ s'=>SP X aN D .next s') hc hN I hi ok hg ht he hs h λL C s' m H' I' q hn f=>?_) λ_ s' hq=>aA (aA hq))
 show wpAny _ _ (assign (.Name y py) X.env (.ref L)) _ _ _
 refine wpAny_assign_Name (W9 (v:=V.ref L) I' hN hy (.inl hyl) rfl (λs2 I2 ⟨a,sb,ha⟩=>?_) (.inr hyl));obtain⟨f0,f1,f2,f3,f4,f5⟩:=f;have haC:C≠a:=by
  rcases ha with z|z
  . rw[z];exact f1
  . exact λe=>f4 y a z e.symm
 refine⟨m,hn.sameBut sb haC,λh3 sb3=>?_⟩;exact⟨_,H',I2.ud (t':=s2.toks) (λb o hb e=>(sb3.2 b hb).trans e) f0 f1 f3 f4 f5,q⟩
def Rq{vs:List Nat}{D:Addr}{Qd:Hp->Prop}(Pv:Nat->Hp->Prop)(h0:Pv 0 (bM H1 D (.cM [])))(hl:∀i H,i<=xs.length->Pv i H->fH K H a xs)(hs:∀i x H,xs[i]? = some x->Pv i H->g x (wipe σ vs) H λσ2 H2=>wipe σ2 vs=wipe σ vs/\tt σ2 H2 λb H3=>
 if b=true then te σ2 H3 λy H4=>∃acc,H4 D=some (.cM acc)/\acc.length<sizeLine/\Pv (i+1) (bM H4 D (.cM (acc++[y]))) else Pv (i+1) H3)(hd:∀H,Pv xs.length H->Qd H):
 ∃W:Nat->Nat->Hp->Prop,(∃m,W 0 m (bM H1 D (.cM [])))/\∀i m H,W i m H ->
  ((Itl K a).Im i H/\Qd H)\/((Itl K a).go i H/\∃Nx:Hp->Prop,(∀H',Nx H'->∃m',m'<m/\W (i+1) m' H')/\∀x H',(Itl K a).yld i H x H'->g x (wipe σ vs) H' λσ2 H2=>wipe σ2 vs=wipe σ vs/\tt σ2 H2 λb H3=>
    if b=true then te σ2 H3 λy H4=>∃acc,H4 D=some (.cM acc)/\acc.length<sizeLine/\Nx (bM H4 D (.cM (acc++[y]))) else Nx H3):=by
 refine⟨λi m H=>m=xs.length-i/\i<=xs.length/\Pv i H,⟨xs.length,by simp,bW _,h0⟩,?_⟩;rintro i m H ⟨rfl,hi,p⟩;have q:=hl i H hi p;by_cases hlt:i<xs.length
 . refine .inr ⟨⟨xs,xs[i],q,by simp[hlt]⟩,Pv (i+1),λH' p'=>⟨xs.length-(i+1),by omega,rfl,hlt,p'⟩,λx H' y=>?_⟩;obtain⟨e,y⟩:=y;subst e;exact hs i x _ (y xs q) p
 . have e:i=xs.length:=by omega
   subst e;exact .inl ⟨⟨xs,q,aH _⟩,hd H p⟩
def afP{vs:List Nat}{D:Addr}{Qd:Hp->Prop}(Pv:Nat->Hp->Prop)(h0:Pv 0 (bM H1 D (.cM [])))(hl:∀i H,i<=xs.length->Pv i H->Bx K H a xs)(hs:∀i x H,xs[i]? = some x->Pv i H->g x (wipe σ vs) H λσ2 H2=>wipe σ2 vs=wipe σ vs/\tt σ2 H2 λb H3=>
 if b=true then te σ2 H3 λy H4=>∃acc,H4 D=some (.cM acc)/\acc.length<sizeLine/\Pv (i+1) (bM H4 D (.cM (acc++[y]))) else Pv (i+1) H3)(hd:∀H,Pv xs.length H->Qd H):
 ∃W:Nat->Nat->Hp->Prop,(∃m,W 0 m (bM H1 D (.cM [])))/\∀i m H,W i m H ->
  ((Itt K a).Im i H/\Qd H)\/((Itt K a).go i H/\∃Nx:Hp->Prop,(∀H',Nx H'->∃m',m'<m/\W (i+1) m' H')/\∀x H',(Itt K a).yld i H x H'->g x (wipe σ vs) H' λσ2 H2=>wipe σ2 vs=wipe σ vs/\tt σ2 H2 λb H3=>
    if b=true then te σ2 H3 λy H4=>∃acc,H4 D=some (.cM acc)/\acc.length<sizeLine/\Nx (bM H4 D (.cM (acc++[y]))) else Nx H3):=by
 refine⟨λi m H=>m=xs.length-i/\i<=xs.length/\Pv i H,⟨xs.length,by simp,bW _,h0⟩,?_⟩;rintro i m H ⟨rfl,hi,p⟩;have q:=hl i H hi p;by_cases hlt:i<xs.length
 . refine .inr ⟨⟨xs,xs[i],q,by simp[hlt]⟩,Pv (i+1),λH' p'=>⟨xs.length-(i+1),by omega,rfl,hlt,p'⟩,λx H' y=>?_⟩;obtain⟨e,y⟩:=y;subst e;exact hs i x _ (y xs q) p
 . have e:i=xs.length:=by omega
   subst e;exact .inl ⟨⟨xs,q,aH _⟩,hd H p⟩
def ako(N:List Str)(sc scope:Scope)(own:List (Str×Nat)):Bool:=
 (match scope.kind with|.function=>true|_=>false)&&(scope.names.all λy=>decide (scope.names.lookup y.1=some y.2))&&(own.all λp=>decide (N[p.2]? = some p.1)) &&
   (scope.names.all λy=>match y.2 with
     |.free=>(match sc.names.lookup y.1 with|some .cell=>true|some .free=>true|_=>false)
     |.local=>decide (y.1∈own.map (·.1))||decide (y.1∉N)
     |.cell=>decide (y.1∈own.map (·.1))||decide (y.1∉N)
     |_=>true)
def xN{own:List (Str×Nat)}(h:ako N sc scope own=true):Z3 N sc scope own:=by
 unfold ako at h;simp only[bQ,iT,bK]at h;obtain⟨⟨⟨h1,h2⟩,h3⟩,h4⟩:=h;refine⟨?_,h2,h3,λy hy e=>?_,λy hy e=>?_⟩
 . split at h1
   . assumption
   . cases h1
 . have q:=h4 y hy;simp only[e]at q;split at q<;>first|exact .inl (by assumption)|exact .inr (by assumption)|cases q
 . have q:=h4 y hy;rcases e with e|e<;>(simp only[e,oJ,bK]at q;exact q)
section
variable{κ:Type} [DecidableEq κ]
def Az(gK:List (κ×V))(k:κ):Option V:=(gK.find? λkv=>decide (kv.1=k)).map (·.2)
def MP(gK:List (κ×V))(k:κ)(v:V):List (κ×V):=
 if (gK.any λkv=>decide (kv.1=k))=true then gK.map (λkv=>if kv.1=k then (kv.1,v) else kv) else gK++[(k,v)]
def Bl(gK:List (κ×V))(k:κ):List (κ×V):=gK.filter λkv=>decide (kv.1≠k)
theorem Iu{p:κ×V}{r:List (κ×V)}{k:κ}(e:p.1=k):Az (p::r) k=some p.2:=by simp[Az,gG,e]
def Ds{p:κ×V}{r:List (κ×V)}{k:κ}(e:¬p.1=k):Az (p::r) k=Az r k:=by simp[Az,gG,e]
theorem UL(k:κ):∀gK:List (κ×V),(gK.any λkv=>decide (kv.1=k))=(Az gK k).isSome
 |[]=>rfl
 |p::r=>by
  rw[jL];by_cases e:p.1=k
  . simp only[Iu e,az e,Bool.true_or,Option.isSome_some]
  . rw[Ds e,aq e,Bool.false_or];exact UL k r
def PK(gK:List (κ×V))(k:κ)(v:V):(MP gK k v).length<=gK.length+1:=by
 unfold MP;split
 . rw[aC];omega
 . rw[aF,bj,bJ];omega
def DW.zy{o:Option V}{u:Option Value}(r:DW o u):o.isSome=u.isSome:=by
 cases o with
 |none=>cases u with
  |none=>rfl
  |some _=>exact(show False from r).elim
 |some _=>cases u with
  |none=>exact(show False from r).elim
  |some _=>rfl
def DW.getD{o:Option V}{u:Option Value}{d:V}{d':Value}(r:DW o u)(rd:jt d d'):jt (o.getD d) (u.getD d'):=by
 cases o with
 |none=>cases u with
  |none=>exact rd
  |some _=>exact(show False from r).elim
 |some _=>cases u with
  |none=>exact(show False from r).elim
  |some _=>exact r
def KV.val{gK:List (κ×V)}{vs:List (κ×Value)}(r:KV gK vs)(k:κ):DW (Az gK k) (valueAt vs k):=by
 unfold KV at r;induction r with
 |nil=>exact True.intro
 |@cons p q ps qs h t ih=>
  obtain⟨h1,h2⟩:=h;by_cases e:p.1=k
  . have e':q.1=k:=h1.symm.trans e;have b:valueAt (q::qs) k=some q.2:=by simp[valueAt,gG,e']
    rw[Iu e,b];exact h2
  . have e':¬q.1=k:=λz=>e (h1.trans z);have b:valueAt (q::qs) k=valueAt qs k:=by simp[valueAt,gG,e']
    rw[Ds e,b];exact ih
def KV.any{gK:List (κ×V)}{vs:List (κ×Value)}(r:KV gK vs)(k:κ):(gK.any λkv=>decide (kv.1=k))=vs.any λkv=>decide (kv.1=k):=by
 unfold KV at r;induction r with
 |nil=>rfl
 |cons h t ih=>rw[jL,jL,ih,h.1]
theorem KV.ajF{gK:List (κ×V)}{vs:List (κ×Value)}(r:KV gK vs)(k:κ)(ry:jt y u):
 KV (gK.map λkv=>if kv.1=k then (kv.1,y) else kv) (vs.map λkv=>if kv.1=k then (kv.1,u) else kv):=by
 unfold KV at r ⊢;induction r with
 |nil=>exact .nil
 |@cons p q ps qs h t ih=>
  rw[bG,bG];refine .cons ?_ ih;obtain⟨h1,h2⟩:=h;by_cases e:p.1=k
  . rw[if_pos e,if_pos (h1.symm.trans e)];exact⟨h1,ry⟩
  . rw[if_neg e,if_neg (λz=>e (h1.trans z))];exact⟨h1,h2⟩
def KV.put{gK:List (κ×V)}{vs:List (κ×Value)}(r:KV gK vs)(k:κ)(ry:jt y u):KV (MP gK k y) (stored vs k u):=by
 unfold MP stored;rw[r.any k];by_cases e:(vs.any λkv=>decide (kv.1=k))=true
 . rw[if_pos e,if_pos e];exact r.ajF k ry
 . rw[if_neg e,if_neg e];exact Paired.snoc r ⟨rfl,ry⟩
def KV.drop{gK:List (κ×V)}{vs:List (κ×Value)}(r:KV gK vs)(k:κ):KV (Bl gK k) (without vs k):=by
 unfold KV at r ⊢;unfold Bl without;induction r with
 |nil=>exact .nil
 |@cons p q ps qs h t ih=>
  obtain⟨h1,h2⟩:=h;rw[lQ,lQ];by_cases e:p.1=k
  . have a:¬decide (p.1≠k)=true:=by simp[e]
    have b:¬decide (q.1≠k)=true:=by simp[h1.symm.trans e]
    rw[if_neg a,if_neg b];exact ih
  . have e':¬q.1=k:=λz=>e (h1.trans z);have a:decide (p.1≠k)=true:=by simp[e]
    have b:decide (q.1≠k)=true:=by simp[e']
    rw[if_pos a,if_pos b];exact .cons ⟨h1,h2⟩ ih
def KV.length{gK:List (κ×V)}{vs:List (κ×Value)}(r:KV gK vs):gK.length=vs.length:=gk r
def aaB(gK:List (κ×V))(k:κ):(Bl gK k).length<=gK.length:=List.length_filter_le _ _
end
def Pz{k:xF}(r:jt (kV k) u):(m9 P w).is k u=true:=by
 cases k with
 |inl i=>obtain⟨t,e⟩:=(show ∃t,u=Value.int i t from r);subst e;exact aaR P w i t
 |inr x=>obtain⟨t,e⟩:=(show ∃t,u=Value.str x t from r);subst e;exact aaS P w x t
theorem WD{P:Program}{w:World}:∀{ks:List xF}{us:List Value},ie (ks.map kV) us->ItemsAre (m9 P w) ks us
 |[],_,r=>by rw[lW]at r;cases r;exact .nil
 |k::ks,_,r=>by
  rw[bG]at r
  cases r with
  |cons h t=>exact .cons (Pz h) (WD t)
abbrev KT(H:Hp):List (List xF×V)->List (List xF×Addr×Value)->Prop:=Paired λp q=>p.1=q.1/\H q.2.1=some (.tup (p.1.map kV))/\jt p.2 q.2.2
def KT.val{xs:List (List xF×Addr×Value)}(r:KT H gK xs)(k:List xF):DW (Az gK k) ((atKey xs k).map (·.2)):=by
 induction r with
 |nil=>exact True.intro
 |@cons p q ps qs h t ih=>
  obtain⟨h1,_,h2⟩:=h;by_cases e:p.1=k
  . have e':q.1=k:=h1.symm.trans e;have b:atKey (q::qs) k=some q.2:=by simp[atKey,gG,e']
    rw[Iu e,b];exact h2
  . have e':¬q.1=k:=λz=>e (h1.trans z);have b:atKey (q::qs) k=atKey qs k:=by simp[atKey,gG,e']
    rw[Ds e,b];exact ih
theorem KT.ajF{xs:List (List xF×Addr×Value)}(r:KT H gK xs)(k:List xF)(ry:jt y u):
 KT H (gK.map λkv=>if kv.1=k then (kv.1,y) else kv) (xs.map (putAt k u)):=by
 induction r with
 |nil=>exact .nil
 |@cons p q ps qs h t ih=>
  rw[bG,bG];refine .cons ?_ ih;obtain⟨h1,h2,h3⟩:=h;unfold putAt;by_cases e:p.1=k
  . rw[if_pos e,if_pos (h1.symm.trans e)];exact⟨h1,h2,ry⟩
  . rw[if_neg e,if_neg (λz=>e (h1.trans z))];exact⟨h1,h2,h3⟩
def KT.put{xs:List (List xF×Addr×Value)}(r:KT H gK xs)(k:List xF)(hb:H b=some (.tup (k.map kV)))(ry:jt y u):
 KT H (MP gK k y) (storedH xs k b u):=by
 have e:(gK.any λkv=>decide (kv.1=k))=(atKey xs k).isSome:=by
  rw[UL,(r.val k).zy,Option.isSome_map]
 unfold MP storedH;rw[e];by_cases q:(atKey xs k).isSome=true
 . rw[if_pos q,if_pos q];exact r.ajF k ry
 . rw[if_neg q,if_neg q];exact Paired.snoc r ⟨rfl,hb,ry⟩
def KT.keeps{xs:List (List xF×Addr×Value)}(r:KT H gK xs)(ht:∀b ys,H b=some (.tup ys)->H' b=some (.tup ys)):KT H' gK xs:=
 Paired.ahu r λ_ _ z=>⟨z.1,ht _ _ z.2.1,z.2.2⟩
def aiv{u:HO}(ok:GK P w H h)(e:Rd H a u):sG P w H h a u:=e.ok ok
def Pu{gK:List (xF×V)}(ok:GK P w H h)(e:Rd H a (.dK gK)):gK.length<=sizeLine/\(a==sysModules)=false/\∃vs,KV gK vs/\h.DictOf (m9 P w) a vs:=
 show sG P w H h a (.dK gK) from aiv ok e
def Wv{gK:List (xF×V)}(ok:GK P w H h)(e:H a=some (.dK gK)):gK.length<=sizeLine/\(a==sysModules)=false/\∃vs,KV gK vs/\h.DictOf (m9 P w) a vs:=Pu ok (.inl e)
def Oa{ks:List xF}(ok:GK P w H h)(e:H a=some (.tup (ks.map kV))):(tupleKind (m9 P w)).is h ks a:=by
 obtain⟨_,its,r,o,h1,h2,n,h3⟩:=(show sG P w H h a (.tup (ks.map kV)) from ok a _ e);exact⟨o,its.toArray,n,h1,h2,h3,by simpa using WD r⟩
def Ss(ok:GK P w H h)(e:Rd H a (.dT gK)):gK.length<=sizeLine/\(a==sysModules)=false /\
 ∃xs,KT H gK xs/\h.DictOfH (tupleKind (m9 P w)) a xs:=by
 obtain⟨z,y,xs,r,o,es,ep,h1,h2,h3,h4,h5⟩:=(show sG P w H h a (.dT gK) from aiv ok e);refine⟨z,y,xs,r,o,es,ep,h1,h2,h3,h4,λx hx=>?_,h5⟩;have all:∀{l:List (List xF×V)} {m:List (List xF×Addr×Value)},KT H l m->∀x∈m,(tupleKind (m9 P w)).is h x.1 x.2.1:=by
  intro l m q;induction q with
  |nil=>intro x hx;exact nomatch hx
  |@cons p q ps qs hq t ih=>
   intro x hx;rcases aJ.mp hx with e|hx
   . subst e;exact Oa ok (by rw[<-hq.1];exact hq.2.1)
   . exact ih x hx
 exact all r x hx
def aku(ok:GK P w H h)(e:H a=some (.dT gK)):gK.length<=sizeLine/\(a==sysModules)=false /\
 ∃xs,KT H gK xs/\h.DictOfH (tupleKind (m9 P w)) a xs:=Ss ok (.inl e)
def uY(H:Hp)(a:Addr)(y:V)(r:Option V):Prop:=
 (∃gK k,Rd H a (.dK gK)/\y=kV k/\r=Az gK k)\/∃gK k b,Rd H a (.dT gK)/\y=.ref b/\H b=some (.tup (k.map kV))/\r=Az gK k
def abx(H:Hp)(a:Addr)(y v:V)(H':Hp):Prop:=
 (∃gK k,H a=some (.dK gK)/\y=kV k/\gK.length<sizeLine/\H'=bM H a (.dK (MP gK k v))) \/
 ∃gK k b,H a=some (.dT gK)/\y=.ref b/\H b=some (.tup (k.map kV))/\gK.length<sizeLine/\H'=bM H a (.dT (MP gK k v))
def uY.k{H:Hp}{a:Addr}{gK:List (xF×V)}{k:xF}(e:H a=some (.dK gK)):uY H a (kV k) (Az gK k):=.inl ⟨gK,k,.inl e,rfl,rfl⟩
def uY.t{k:List xF}(e:H a=some (.dT gK))(eb:H b=some (.tup (k.map kV))):uY H a (.ref b) (Az gK k):=.inr ⟨gK,k,b,.inl e,rfl,eb,rfl⟩
def abx.k{H:Hp}{a:Addr}{gK:List (xF×V)}{k:xF}{v:V}(e:H a=some (.dK gK))(hl:gK.length<sizeLine):abx H a (kV k) v (bM H a (.dK (MP gK k v))):=.inl ⟨gK,k,e,rfl,hl,rfl⟩
def abx.t{k:List xF}(e:H a=some (.dT gK))(eb:H b=some (.tup (k.map kV)))(hl:gK.length<sizeLine):
 abx H a (.ref b) v (bM H a (.dT (MP gK k v))):=.inr ⟨gK,k,b,e,rfl,eb,hl,rfl⟩
section
variable{r:Value}{o:Option V}
def d8.big(I:d8 X aN σ H s):sysModules<s.heap.objs.size:=by
 have h:mainGlobals<s.heap.objs.size:=(I.S8.SJ.keeps I.bk).lt;exact Nat.lt_trans (by decide) h
def aed(hu:A.units+1<cLine)(I:d8 X aN σ H s)(g:uY H a y (some v))(ry:jt y u)(h:∀w' s',d8 X aN σ H s'->jt v w'->Q w' s'):
 wpAny (model X.prog X.w) A (getItem (.ref a) u) Q E s:=by
 rcases g with⟨gK,k,e,ey,l⟩|⟨gK,k,b,e,ey,eb,l⟩
 . subst ey;obtain⟨z,hd,vs,rel,dd⟩:=Pu I.mC e;obtain⟨w',hw,rw'⟩:=DW.Ry (v:=v) (o:=valueAt vs k) (by rw[l];exact rel.val k)
   exact wpAny_getItem_of (Pz ry) dd.mapOf hw (h w' _ (I.Dr _) rw')
 . subst ey
   cases (show u=Value.ref b from ry);obtain⟨z,hd,xs,rel,dd⟩:=Ss I.mC e;obtain⟨w',hw,rw'⟩:=DW.Ry (v:=v) (o:=(atKey xs k).map (·.2)) (by rw[l];exact rel.val k)
   obtain⟨p,hp,hp2⟩:=Option.map_eq_some_iff.mp hw;refine wpAny_getItem_heap (jA hu) (Oa I.mC eb) dd hp ?_;rw[hp2];exact h w' _ (I.Dr _) rw'
def alB(hu:A.units+1<cLine)(I:d8 X aN σ H s)(g:uY H a y o)(ry:jt y u)(h:∀s',d8 X aN σ H s'->Q (.bool o.isSome) s'):
 wpAny (model X.prog X.w) A (compareOp .In u (.ref a)) Q E s:=by
 rcases g with⟨gK,k,e,ey,l⟩|⟨gK,k,b,e,ey,eb,l⟩
 . subst ey;obtain⟨z,hd,vs,rel,dd⟩:=Pu I.mC e;refine wpAny_in_of (Pz ry) hd dd.mapOf ?_;rw[<-(rel.val k).zy,<-l];exact h _ (I.Dr _)
 . subst ey
   cases (show u=Value.ref b from ry);obtain⟨z,hd,xs,rel,dd⟩:=Ss I.mC e;refine wpAny_in_heap (jA hu) (Oa I.mC eb) hd dd ?_;have q:=(rel.val k).zy;rw[Option.isSome_map]at q;rw[<-q,<-l];exact h _ (I.Dr _)
def ahd(hu:A.units+1<cLine)(I:d8 X aN σ H s)(g:uY H a y o)(ry:jt y u)(h:∀s',d8 X aN σ H s'->Q (.bool (!o.isSome)) s'):
 wpAny (model X.prog X.w) A (compareOp .NotIn u (.ref a)) Q E s:=by
 rcases g with⟨gK,k,e,ey,l⟩|⟨gK,k,b,e,ey,eb,l⟩
 . subst ey;obtain⟨z,hd,vs,rel,dd⟩:=Pu I.mC e;refine wpAny_notIn_of (Pz ry) hd dd.mapOf ?_;rw[<-(rel.val k).zy,<-l];exact h _ (I.Dr _)
 . subst ey
   cases (show u=Value.ref b from ry);obtain⟨z,hd,xs,rel,dd⟩:=Ss I.mC e;refine wpAny_notIn_heap (jA hu) (Oa I.mC eb) hd dd ?_;have q:=(rel.val k).zy;rw[Option.isSome_map]at q;rw[<-q,<-l];exact h _ (I.Dr _)
def Rn{t':Nat}{ob:HO}(I:d8 X aN σ H s)(mu:Mut (H a))(hs:Heap.SameBut a s.heap h')(he:∃q,h'.get? a=some q)(new:sG X.prog X.w (bM H a ob) h' a ob):
 d8 X aN σ (bM H a ob) {s with heap:=h',toks:=t'}:=
 I.Nj (x:=a) (e:=a) mu (.inl rfl) (λb q hb z=>(hs.2 b hb).trans z) he new
def abT{gK:List (xF×V)}{vs:List (xF×Value)}(z:gK.length<=sizeLine)(hd:(a==sysModules)=false)(rel:KV gK vs)(dd:h'.DictOf (m9 P w) a vs):
 sG P w H' h' a (.dK gK):=⟨z,hd,vs,rel,dd⟩
def aee{Q:Unit->Shared->Prop}(hu:A.units+1<cLine)(I:d8 X aN σ H s)(g:abx H a y v H')(ry:jt y u)(rv:jt v r)(h:∀s',d8 X aN σ H' s'->Q () s'):
 wpAny (model X.prog X.w) A (setItem (.ref a) u r) Q E s:=by
 rcases g with⟨gK,k,e,ey,l,eH⟩|⟨gK,k,b,e,ey,eb,l,eH⟩
 . subst ey eH;obtain⟨z,hd,vs,rel,dd⟩:=Wv I.mC e;have hz:vs.length<=sizeLine:=by rw[<-rel.length];exact z
   have hl:(MP gK k v).length<=sizeLine:=by have:=PK gK k v;omega
   refine wpAny_setItem_pairs (hsz:=hz) (Pz ry) dd λh' dd' hs=>h _ ?_;have he:∃q,h'.get? a=some q:=let⟨q,_,_,hq,_⟩:=dd';⟨q,hq⟩
   exact Rn I (by rw[e];exact True.intro) hs he (abT hl hd (rel.put k rv) dd')
 . subst ey eH
   cases (show u=Value.ref b from ry);obtain⟨z,hd,xs,rel,dd⟩:=aku I.mC e;have hz:xs.length<=sizeLine:=by rw[<-gk rel];exact z
   have hl:(MP gK k v).length<=sizeLine:=by have:=PK gK k v;omega
   refine wpAny_setItem_heap (hsz:=hz) (jA hu) (Oa I.mC eb) dd λh' dd' hs=>h _ ?_;obtain⟨q,es,ep,hq,h2,h3,h4,_,h5⟩:=dd';refine Rn I (by rw[e];exact True.intro) hs ⟨q,hq⟩ ⟨hl,hd,_,(rel.put k eb rv).keeps λc ys ec=>?_,q,es,ep,hq,h2,h3,h4,h5⟩
   rw[aM (CT ec e (λz=>nomatch z))];exact ec
end
section
variable{gK:List (xF×V)}{k:xF}
def aj7{Q:Unit->Shared->Prop}(I:d8 X aN σ H s)(e:H a=some (.dK gK))(ry:jt (kV k) u)(l:(Az gK k).isSome=true)(h:∀s',d8 X aN σ (bM H a (.dK (Bl gK k))) s'->Q () s'):
 wpAny (model X.prog X.w) A (delItem (.ref a) u) Q E s:=by
 obtain⟨z,hd,vs,rel,dd⟩:=Wv I.mC e;refine wpAny_delItem_slot dd.typeIs (by decide) PySem.F.slot_dict_delitem
  (call_meetsIn PySem.F.slot_dict_delitem dd.typeIs PySem.F.entry_dict_delitem (PySem.F.args_dict_delitem_2 _ _) (meets_dict_delitem_pairs (m9 X.prog X.w) a (Pz ry)) ⟨vs,dd,by rw[<-rel.length];exact z,by rw[<-(rel.val k).zy];exact l,λh' dd' hs=>h _ ?_⟩)
 have he:∃q,h'.get? a=some q:=let⟨q,_,_,hq,_⟩:=dd';⟨q,hq⟩
 exact Rn I (by rw[e];exact True.intro) hs he (abT (cG (aaB gK k) z) hd (rel.drop k) dd')
def akt{more:List Value}(I:d8 X aN σ H s)(e:H a=some (.dK gK))(ry:jt (kV k) u)(l:Az gK k=some v)(hm:more=[]\/∃x,more=[x])(h:∀w' s',d8 X aN σ (bM H a (.dK (Bl gK k))) s'->jt v w'->Q w' s'):wpAny (model X.prog X.w) A (call (.builtin "dict.pop") (.ref a::u::more)) Q E s:=by
 obtain⟨z,hd,vs,rel,dd⟩:=Wv I.mC e;obtain⟨w',hw,rw'⟩:=DW.Ry (v:=v) (o:=valueAt vs k) (by rw[<-l];exact rel.val k)
 have hp:(keyPart u).isSome=true:=by
  cases k with
  |inl i=>obtain⟨t,q⟩:=(show ∃t,u=Value.int i t from ry);subst q;rfl
  |inr x=>obtain⟨t,q⟩:=(show ∃t,u=Value.str x t from ry);subst q;rfl
 have ha:argsOk "dict.pop" ⟨.ref a::u::more,[]⟩:=by
  rcases hm with q|⟨x,q⟩
  . subst q;exact PySem.F.args_dict_pop_2 _ _
  . subst q;exact PySem.F.args_dict_pop_3 _ _ _
 refine call_meetsIn PySem.F.slot_dict_pop dd.typeIs PySem.F.entry_dict_pop ha (meets_dict_pop_there (m9 X.prog X.w) a (Pz ry) more hm hp)
  ⟨vs,w',dd,by rw[<-rel.length];exact z,hw,λh' dd' hs=>h w' _ ?_ rw'⟩
 have he:∃q,h'.get? a=some q:=let⟨q,_,_,hq,_⟩:=dd';⟨q,hq⟩
 exact Rn I (by rw[e];exact True.intro) hs he (abT (cG (aaB gK k) z) hd (rel.drop k) dd')
def aks(I:d8 X aN σ H s)(e:Rd H a (.dK gK))(h:∀t s',d8 X aN σ H s'->Q (.int gK.length t) s'):wpAny (model X.prog X.w) A (call (.builtin "len") [.ref a]) Q E s:=by
 obtain⟨z,hd,vs,rel,dd⟩:=Pu I.mC e;refine call_len_dict hd dd (by rw[<-rel.length];rw[bw]at z;omega) ?_
 rw[<-rel.length];exact h _ _ (I.Dr _)
end
def akf(i:Expr):Prop:=∀ov iv,subscripted i false ov iv=operate [ov,iv] (getItem ov iv)
def ah3{value slice:Expr}{T id:String}(hl:typeLookup (.type T) "__getitem__"=pure (some (.builtin id)))(hs:akf slice)(h:wpAny (model prog w) A (eval value env) (λo s₁=>wpAny (model prog w) A (eval slice env) (λi s₂=>s₂.TypeIs o T/\wpAny (model prog w) A (getItem o i) Q E s₂) E s₁) E s):
 wpAny (model prog w) A (eval (.Subscript value slice pos) env) Q E s:=by
 refine Subscript_ (dj h (λo s₁ h₁=>dj h₁ (λi s₂ h₂=>?_) λ_ _ x=>x) λ_ _ x=>x);obtain⟨hT,h₂⟩:=h₂;unfold subscriptTail;refine aj ?_;rw[getitemInPython_of_ne hT.not_modules];refine aj (wpAny_specialOf hT hl ?_);have fin:wpAny (model prog w) A (subscripted slice false o i) (λr s₃=>wpAny (model prog w) A (letTemporaryGo value o r >>= λ_=>pure r) Q E s₃) E s₂:=by
  rw[hs o i];exact wpAny_operating (dj h₂ (λr s₃ h₃=>aj (wpAny_letTemporaryGo (aA h₃))) λ_ _ x=>x)
 first
  |exact aA (aj fin)
  |exact aj (aA (aj fin))
  |exact aj fin
def aaz{o:Option V}(I:d8 X aN σ H s)(g:uY H a y o):s.TypeIs (.ref a) "dict":=by
 rcases g with⟨gK,k,e,_,_⟩|⟨gK,k,b,e,_,_,_⟩
 . obtain⟨_,_,vs,_,dd⟩:=Pu I.mC e;exact dd.typeIs
 . obtain⟨_,_,xs,_,dd⟩:=Ss I.mC e;exact dd.typeIs
inductive akx(x y:V)(H:Hp)(Q:VK):Prop
 |mk (a:Addr) (v:V) (_:x=.ref a) (_:uY H a y (some v)) (_:Q v H)
def ak4(td ty:TE):TE:=λσ H Q=>td σ H λx H1=>ty σ H1 λy H2=>akx x y H2 Q
inductive alq(x y:V)(H:Hp)(Q:VK):Prop
 |mk (a:Addr) (o:Option V) (_:x=.ref a) (_:uY H a y o) (_:Q (.bl o.isSome) H)
def al2(ty td:TE):TE:=λσ H Q=>ty σ H λy H1=>td σ H1 λx H2=>alq x y H2 Q
inductive agU(x y:V)(H:Hp)(Q:VK):Prop
 |mk (a:Addr) (o:Option V) (_:x=.ref a) (_:uY H a y o) (_:Q (.bl (!o.isSome)) H)
def ah7(ty td:TE):TE:=λσ H Q=>ty σ H λy H1=>td σ H1 λx H2=>agU x y H2 Q
inductive akL(x y v:V)(H:Hp)(R:Hp->Prop):Prop
 |mk (a:Addr) (H4:Hp) (_:x=.ref a) (_:abx H a y v H4) (_:R H4)
def akW(td ty tv:TE):TS:=λD σ H=>tv σ H λv H1=>td σ H1 λx H2=>ty σ H2 λy H3=>akL x y v H3 (D.nx σ)
section
variable{o i value:Expr}{td ty tv:TE}
def MK(hu:X.A.units+1<cLine)(ho:PE X o td)(hi:PE X i ty)(hs:akf i):PE X (.Subscript o i pos) (ak4 td ty):=by
 intro aN s σ H Q I h;refine ah3 PySem.F.slot_dict_getitem.lookup hs (nO (ho aN s σ H _ I h) λu s1 ⟨x,H1,I1,rx,q1⟩=>nO (hi aN s1 σ H1 _ I1 q1) λiv s2 ⟨y,H2,I2,ry,a,v,ex,g,q2⟩=>?_);subst ex;obtain rfl:u=Value.ref a:=rx;exact⟨aaz I2 g,aed hu I2 g ry λw' s3 I3 rw'=>⟨v,H2,I3,rw',q2⟩⟩
def Y5(hu:X.A.units+1<cLine)(hi:PE X i ty)(ho:PE X o td):PC X .In i o (al2 ty td):=by
 intro aN s σ H Q I h;refine nO (hi aN s σ H _ I h) λiv s1 ⟨y,H1,I1,ry,q1⟩=>nO (ho aN s1 σ H1 _ I1 q1) λu s2 ⟨x,H2,I2,rx,a,ov,ex,g,q2⟩=>?_;subst ex;obtain rfl:u=Value.ref a:=rx;exact alB hu I2 g ry λs3 I3=>⟨.bl ov.isSome,H2,I3,rfl,q2⟩
def WT(hu:X.A.units+1<cLine)(hi:PE X i ty)(ho:PE X o td):PC X .NotIn i o (ah7 ty td):=by
 intro aN s σ H Q I h;refine nO (hi aN s σ H _ I h) λiv s1 ⟨y,H1,I1,ry,q1⟩=>nO (ho aN s1 σ H1 _ I1 q1) λu s2 ⟨x,H2,I2,rx,a,ov,ex,g,q2⟩=>?_;subst ex;obtain rfl:u=Value.ref a:=rx;exact ahd hu I2 g ry λs3 I3=>⟨.bl (!ov.isSome),H2,I3,rfl,q2⟩
def ahQ(hu:X.A.units+1<cLine)(ho:PE X o td)(hi:PE X i ty)(hv:PE X value tv)(hs:swapsWith value (some (.Subscript o i pos')) pos.line X.env=pure false):
 PS X (.Assign [.Subscript o i pos'] value pos) (akW td ty tv):=by
 intro aN s σ H D I h;refine wpAny_Assign_Subscript (nO (hv aN s σ H _ I h) λr s1 ⟨v,H1,I1,rv,q1⟩=>nO (ho aN s1 σ H1 _ I1 q1) λu s2 ⟨x,H2,I2,rx,q2⟩=>nO (hi aN s2 σ H2 _ I2 q2) λiv s3 ⟨y,H3,I3,ry,a,H4,ex,g,q3⟩=>?_) hs;subst ex;obtain rfl:u=Value.ref a:=rx;exact aee hu I3 g ry rv λs4 I4=>⟨σ,H4,I4,q3⟩
end
def afp(h:Heap)(hb:sysModules<h.objs.size):sG P w H (h.push {cls:=.type "dict",data:=.dict #[]}) h.objs.size (.dK []):=
 ⟨bW _,jk.mpr (Ne.symm (cu hb)),[],.nil,Heap.DictOf.new h⟩
def ajT:TE:=λ_ H Q=>∀p,H p=none->Q (.ref p) (bM H p (.dK []))
def af4:PE X (.Dict [] [] pos) ajT:=λaN s σ H Q I h=>
 wpAny_Dict_empty ⟨.ref s.heap.objs.size,_,I.laid (a:=s.heap.objs.size) (o:=.dK []) (t':=s.toks) (λ_ _ q=>aL _ q) (aH _) (afp s.heap I.big),rfl,h _ (I.mC.fresh (aH _))⟩
structure M1(X:Cx)(o:Expr)(m:Str)(apos:Pos)(e:Expr)(cpos:Pos):Prop where
 base:attributeBase o m X.env (eval o X.env)=eval o X.env
 few:((backTo cpos (starEach [e] X.env)).all (λx=>!x.1)&&(backToKw cpos (keywordEach [] X.env)).all (λx=>x.1.isSome)
  && decide (([e]:List Expr).length+([]:List Keyword).length+(if ([]:List Keyword).isEmpty then 0 else 1)<30))=true
 line:(apos.endLine==cpos.line)=true
 aiB:backTo cpos (starEach [e] X.env)=[(false,eval e X.env)]
def IsD(H:Hp)(a:Addr):Prop:=(∃gK,Rd H a (.dK gK))\/∃gK,Rd H a (.dT gK)
def afK(I:d8 X aN σ H s)(d:IsD H a):
 s.TypeIs (.ref a) "dict"/\(∀b,Value.ref a=.ref b->∃ob,s.heap.get? b=some ob/\ob.dict=none)/\(a==sysModules)=false:=by
 rcases d with⟨gK,e⟩|⟨gK,e⟩
 . obtain⟨_,hd,vs,_,dd⟩:=Pu I.mC e;refine⟨dd.typeIs,λb q=>?_,hd⟩
   cases q;obtain⟨ob,_,_,h1,h2,_⟩:=dd;exact⟨ob,h1,h2.2.1⟩
 . obtain⟨_,hd,xs,_,dd⟩:=Ss I.mC e;refine⟨dd.typeIs,λb q=>?_,hd⟩
   cases q;obtain⟨ob,_,_,h1,h2,_⟩:=dd;exact⟨ob,h1,h2.2.1⟩
section
variable{d:V}{r:Value}{o:Option V}
def aiX(hu:A.units+1<cLine)(I:d8 X aN σ H s)(g:uY H a y o)(ry:jt y u)(h:∀w' s',d8 X aN σ H s'->jt (o.getD .non) w'->Q w' s'):
 wpAny (model X.prog X.w) A (call (.builtin "dict.get") [.ref a,u]) Q E s:=by
 rcases g with⟨gK,k,e,ey,l⟩|⟨gK,k,b,e,ey,eb,l⟩
 . subst ey;obtain⟨z,hd,vs,rel,dd⟩:=Pu I.mC e;refine call_meetsIn pR dd.typeIs PySem.F.entry_dict_get (PySem.F.args_dict_get_2 _ _) (meets_dict_get (m9 X.prog X.w) a (Pz ry) hd) ⟨_,dd.mapOf,h _ _ (I.Dr _) ?_⟩;rw[l];exact(rel.val k).getD rfl
 . subst ey
   cases (show u=Value.ref b from ry);obtain⟨z,hd,xs,rel,dd⟩:=Ss I.mC e;refine call_meetsIn pR dd.typeIs PySem.F.entry_dict_get (PySem.F.args_dict_get_2 _ _) (meetsH_dict_get (tupleKind (m9 X.prog X.w)) a b hd) ⟨jA hu,k,xs,Oa I.mC eb,dd,h _ _ (I.Dr _) ?_⟩;rw[l];exact(rel.val k).getD rfl
end
def ajS(td ty:TE):TE:=λσ H Q=>td σ H λx H1=>∃a,x=.ref a/\IsD H1 a/\ty σ H1 λy H2=>∃o,uY H2 a y o/\Q (o.getD .non) H2
def ajU(td ty:TE):TE:=λσ H Q=>td σ H λx H1=>∃a,x=.ref a/\IsD H1 a/\ty σ H1 λy H2=>∃gK k v,H2 a=some (.dK gK)/\y=kV k/\Az gK k=some v/\Q v (bM H2 a (.dK (Bl gK k)))
section
variable{o f:Expr}{cpos:Pos}{td ty tx:TE}
def aa6(hu:X.A.units+1<cLine)(ho:PE X o td)(he:PE X e ty)(m:M1 X o "get" apos e cpos):PE X (.Call (.Attribute o "get" apos) [e] [] cpos) (ajS td ty):=by
 intro aN s σ H Q I h;refine wpAny_Call_method m.base m.few m.line PySem.F.plainAttrs_dict pR PySem.F.type_dict_get (nO (ho aN s σ H _ I h) λu s1 ⟨x,H1,I1,rx,a,ex,d,q1⟩=>?_);subst ex;obtain rfl:u=Value.ref a:=rx;obtain⟨t1,t2,_⟩:=afK I1 d;refine⟨t1,t2,?_⟩;rw[m.aiB];refine iM rfl (jh (gJ (nO (he aN s1 σ H1 _ I1 q1) λiv s2 ⟨y,H2,I2,ry,ov,g,q2⟩=>gZ ?_)));exact aiX hu I2 g ry λw' s3 I3 rw'=>⟨_,H2,I3,rw',q2⟩
def TY(ho:PE X o td)(he:PE X e ty)(m:M1 X o "pop" apos e cpos):PE X (.Call (.Attribute o "pop" apos) [e] [] cpos) (ajU td ty):=by
 intro aN s σ H Q I h;refine wpAny_Call_method m.base m.few m.line PySem.F.plainAttrs_dict PySem.F.slot_dict_pop PySem.F.type_dict_pop (nO (ho aN s σ H _ I h) λu s1 ⟨x,H1,I1,rx,a,ex,d,q1⟩=>?_);subst ex;obtain rfl:u=Value.ref a:=rx;obtain⟨t1,t2,_⟩:=afK I1 d;refine⟨t1,t2,?_⟩;rw[m.aiB];refine iM rfl (jh (gJ (nO (he aN s1 σ H1 _ I1 q1) λiv s2 ⟨y,H2,I2,ry,gK,k,v,ea,ey,l,q2⟩=>gZ ?_)));subst ey;exact akt I2 ea ry l (.inl rfl) λw' s3 I3 rw'=>⟨v,_,I3,rw',q2⟩
end
def d8.Xe{t':Nat}{T:Addr}{ob:HO}(I:d8 X aN σ H s)(k:∀b o,b∉ch->s.heap.get? b=some o->h'.get? b=some o)(hf:∀b∈ch,RL X aN H b)(hT:s.heap.objs.size<=T)(new:sG X.prog X.w (bM H T ob) h' T ob):d8 X aN σ (bM H T ob) {s with heap:=h',toks:=t'}:=by
 have hn:H T=none:=I.mC.fresh hT;have nit:∀b u,H b=some u->b∉ch:=λb u e z=>by
  have q:=(hf b z).1;rw[q]at e;cases e
 refine I.step (g':=s.gens) (d':=s.drawn) (ch:=ch) (λb hb=>⟨(hf b hb).2.2.2.1,(hf b hb).2.1,(hf b hb).2.2.2.2.1,(hf b hb).2.2.2.2.2⟩) (λb o _ _ hc e _=>k b o hc e) (λb o _ _ hc e _=>⟨o.slots,k b o hc e⟩)
  (λb o _ e n=>?_) (λb o hc e=>⟨o,k b o hc e⟩) (λb xs e=>?_) (λb o u e=>?_) (λb ps e=>⟨#[],?_⟩) (λm hm=>?_) (λb u e=>?_) I.bare
 . rw[aM (cu (bZ (aP e) hT))];exact n
 . rw[aM (aD e hn)];exact e
 . rw[aM (aD e hn)];exact e
 . rw[aM (aD e hn),e];simp
 . obtain⟨o,es,ep,ho,r⟩:=hm;exact⟨o,es,ep,k _ o (λz=>(hf _ z).2.1 rfl) ho,r⟩
 . by_cases hb:b=T
   . subst hb;rw[aB]at e
     cases e;exact new
   . rw[aM hb]at e;refine(I.mC b u e).Rc (λc v hc q=>k c v ?_ q) (λc q=>by rw[aM (aD q hn)];exact q) λc xs q=>by rw[aM (aD q hn)];exact q
     rcases hc with z|z
     . rw[z];exact nit b u e
     . exact nit c _ z
def d8.alI{u:HO}(I:d8 X aN σ H s)(h:H d=some u)(mu:Mut (some u)):∃od,d8 X aN σ (bM H d (.frz od u)) s:=by
 have x:=I.mC d u h;have ex:∃od,s.heap.get? d=some od:=by
  cases u with
  |cM xs=>obtain⟨_,_,_,_,e⟩:=x;exact⟨_,e⟩
  |dK gK=>obtain⟨_,_,_,_,o,_,_,e,_⟩:=x;exact⟨o,e⟩
  |dT gK=>obtain⟨_,_,_,_,o,_,_,e,_⟩:=x;exact⟨o,e⟩
  |set S n=>obtain⟨o,_,_,_,e,_⟩:=x;exact⟨o,e⟩
  |ins C dx fs=>obtain⟨_,_,_,e,_⟩:=x;exact⟨_,e⟩
  |ext φ=>obtain⟨_,⟨_,e⟩,_⟩:=x;exact⟨_,e⟩
  |_=>exact False.elim mu
 obtain⟨od,e⟩:=ex;have new:sG X.prog X.w (bM H d (.frz od u)) s.heap d (.frz od u):=by
  refine⟨e,x.Rc (λb v _ q=>q) (λb q=>?_) λb xs q=>?_⟩
  . rw[aM (λz=>by rw[z,h]at q;cases q;exact mu)];exact q
  . rw[aM (λz=>by rw[z,h]at q;cases q;exact mu)];exact q
 exact⟨od,I.Nj (x:=d) (e:=d) (t':=s.toks) (h':=s.heap) (by rw[h];exact mu) (.inl rfl) (λb v _ q=>q) ⟨od,e⟩ new⟩
def d8.adp{u:HO}(I:d8 X aN σ H s)(h:H d=some u)(mu:Mut (some u)):∀o' u',X.H₀ d≠some (.frz o' u'):=λo' u' e=>by
 have q:=I.base.Kr d o' u' e;rw[h]at q
 cases q;exact mu
def d8.ZM{od:Obj}{u:HO}(I:d8 X aN σ H s)(h:H d=some (.frz od u))(hn:∀o' u',X.H₀ d≠some (.frz o' u')):d8 X aN σ (bM H d u) s:=by
 have neH:∀b o,H b=some o->(∀o' u',o≠.frz o' u')->b≠d:=λb o e hne z=>by
  rw[z,h]at e
  cases e;exact hne _ _ rfl
 have neN:∀b,H b=none->b≠d:=λb e z=>by rw[z,h]at e;cases e
 refine⟨I.ok,I.os,I.bare,⟨I.base.keep,I.base.slot,λb o e n hx=>?_,I.base.there,λb xs e=>?_,λb o x e=>?_,λb ps e=>?_⟩,I.PL,I.cell,?_,λx c e=>?_,λp hp=>?_,λb o e=>?_,I.len⟩
 . rw[aM (neN b (I.base.free b o e n hx))];exact I.base.free b o e n hx
 . have q:=I.base.tups b xs e;rw[aM (neH b _ q (λ_ _ z=>nomatch z))];exact q
 . have q:=I.base.Kr b o x e;rw[aM (λz=>by rw[z]at e;exact hn _ _ e)];exact q
 . obtain⟨m,q⟩:=I.base.Pg b ps e;exact⟨m,by rw[aM (neH b _ q (λ_ _ z=>nomatch z))];exact q⟩
 . rw[aM (neN _ I.free)];exact I.free
 . rw[aM (neN c (I.tD x c e))];exact I.tD x c e
 . obtain⟨e,n,r⟩:=I.Qc p hp;exact⟨e,by rw[aM (neN _ n)];exact n,r⟩
 . by_cases hb:b=d
   . rw[hb,aB]at e
     cases e;rw[hb];obtain⟨_,x⟩:=I.mC d _ h;exact x.Rc (λc v _ q=>q) (λc q=>by rw[aM (neH c _ q (λ_ _ z=>nomatch z))];exact q) λc xs q=>by rw[aM (neH c _ q (λ_ _ z=>nomatch z))];exact q
   . rw[aM hb]at e;exact(I.mC b o e).Rc (λc v _ q=>q) (λc q=>by rw[aM (neH c _ q (λ_ _ z=>nomatch z))];exact q) λc xs q=>by rw[aM (neH c _ q (λ_ _ z=>nomatch z))];exact q
def ak7(t:TS):TS:=λD σ H=>∃d u,H d=some u/\Mut (some u)/\∀od,t ⟨λσ' H'=>H' d=some (.frz od u)/\D.nx σ' (bM H' d u),λv H'=>H' d=some (.frz od u)/\D.rt v (bM H' d u),λσ' H'=>H' d=some (.frz od u)/\D.bk σ' (bM H' d u),λσ' H'=>H' d=some (.frz od u)/\D.ct σ' (bM H' d u)⟩ σ (bM H d (.frz od u))
def ahR{t:TS}(h:PS X st t):PS X st (ak7 t):=by
 intro aN s σ H D I hw;obtain⟨d,u,hd,mu,hw⟩:=hw;obtain⟨od,I1⟩:=I.alI hd mu;refine nO (h aN s σ _ _ I1 (hw od)) λf s1 q=>?_
 cases f with
 |next=>obtain⟨σ',H',I2,e,q⟩:=q;exact⟨σ',_,I2.ZM e (I.adp hd mu),q⟩
 |brk=>obtain⟨σ',H',I2,e,q⟩:=q;exact⟨σ',_,I2.ZM e (I.adp hd mu),q⟩
 |cont=>obtain⟨σ',H',I2,e,q⟩:=q;exact⟨σ',_,I2.ZM e (I.adp hd mu),q⟩
 |ret v=>obtain⟨x,σ',H',I2,r,e,q⟩:=q;exact⟨x,σ',_,I2.ZM e (I.adp hd mu),r,q⟩
def Y7{R:It->Hp->Prop}{J:It}{tn:Nat->Heap->Prop}{tk:Nat}(I:d8 X aN σ H s)(o:Obj)(T:U9 X.prog X.w X.K tg J [s.heap.objs.size] s.heap.objs.size tn)(st:tn 0 (s.heap.push o))(q:R J H):PIE X aN σ tg R (.ref s.heap.objs.size) {s with heap:=s.heap.push o,toks:=tk}:=by
 refine⟨s.heap.objs.size,[s.heap.objs.size],tn,J,H,rfl,I.wK λb ob e=>aL _ e,T,st,λb hb=>?_,q⟩;have e:b=s.heap.objs.size:=by simpa using hb
 subst e;exact I.ab0 (aH _) (I.mC.fresh (aH _))
def Itc(lo c:Int)(n:Nat):It:=⟨λi _=>i<n,λi H x H'=>H'=H/\x=.int (lo+(i:Nat)*c),λi _=>n<=i⟩
def abn(it:Addr)(lo c:Int)(n:Nat):U9 P w K tg (Itc lo c n) [it] it (λi h=>IsRangeIter h it (lo+(i:Nat)*c) ((n:Int)-(i:Nat)) c) where
 mem:=by simp
 obj:=λi h st b hb=>by
  have e:b=it:=by simpa using hb
  subst e;exact⟨_,st,λv z=>nomatch z⟩
 keep:=λi h h' st k=>k it (by simp) _ st
 item:=by
  intro X hP hw hK hc i aN s σ H E I hf st hg;subst hP hw hK;obtain⟨f0,f1,f2,f3,f4,f5⟩:=hf it (by simp);have W:=Walks.range (prog:=X.prog) (w:=X.w) (I.ok.hd hc) it lo c n;refine W.item i s _ _ hg st λv h' tk hv st' kk=>?_;obtain⟨t,rfl⟩:=hv;have I1:d8 X aN σ H {s with heap:=h',toks:=tk}:=I.ud (λb o hb e=>kk b o (by simpa using hb) e) f0 f1 f3 f4 f5;exact⟨_,rfl,Wz (s:={s with heap:=h',toks:=tk}) (n:="range_iterator") st' rfl rfl (by decide) ⟨.int (lo+(i:Nat)*c),H,I1,⟨t,rfl⟩,⟨rfl,rfl⟩,st',λb hb=>(hf b hb).1⟩⟩
 done:=by
  intro X hP hw hK hc i aN s σ H E I hf st hg;subst hP hw hK;obtain⟨f0,f1,f2,f3,f4,f5⟩:=hf it (by simp);exact wpAny_pyNext_range_end (I.ok.hd hc) st (by have:n<=i:=hg;omega) λh' eb=>⟨rfl,I.ud (t':=s.toks) (λb o hb e=>eb b o hb e) f0 f1 f3 f4 f5⟩
 self:=λA i s Q E st h=>wpAny_pyIter_rangeiter st h
def RgC(i j c:Int)(n:Nat):Prop:=c≠0/\c.natAbs<1073741824/\Builtin.Range.small i j c=true/\Builtin.Range.rangeSize i j c=n
def RgC.neg{i j:Int}(ha:-(2^62)<=i)(ha':i<2^62)(hb:-(2^62)<=j)(hb':j<2^62):RgC i j (-1) (i-j).toNat:=
 ⟨by decide,by decide,PySem.W.small_down ha ha' hb hb',PySem.W.rangeSize_downNat i j⟩
def akD(ta:TA):TI:=λσ H R=>ta σ H λvs H1=>∃(i j c:Int)(n:Nat),vs=[.int i,.int j,.int c]/\RgC i j c n/\R (Itc i c n) H1
def WX{a b:Expr}(hg:Gl X "range")(hm:X.mg "range"=none)(ha:PA X [a,b,c] ta)(hs:starEach [a,b,c] X.env=(false,eval a X.env)::starEach [b,c] X.env:=by rfl)(hpl:(backTo pos (starEach [b,c] X.env)).any (·.1)=false:=by rfl):
 PI X tg (.Call (.Name "range" p) [a,b,c] [] pos) (akD ta):=by
 intro aN s σ H R I h;refine Call_ (Kv I hg hm boot_range (jM (nO (ha pos aN s σ H _ I h) λus s1 ⟨vs,H1,I1,r1,q1⟩=>?_) hs hpl));obtain⟨i,j,k,n,e,⟨c0,c1,c2,c3⟩,q⟩:=q1;subst e
 cases r1 with
 |cons r rr=>
  cases rr with
  |cons r' rr=>
   cases rr with
   |cons r'' rr=>
    cases rr;obtain⟨t,rfl⟩:=r;obtain⟨t',rfl⟩:=r';obtain⟨t'',rfl⟩:=r'';refine call_range_3 c0 ?_ (.inl (PyProof.noPylong_small c1));refine wpAny_pyIter_range (IsRange.new ..) c2 ?_;have I2:d8 X aN σ H1 {s1 with heap:=s1.heap.push {cls:=.type "range",data:=.fields #[.int i t,.int j t',.int k t'']}}:=I1.wK (t':=s1.toks) λb o e=>aL _ e;refine Y7 (tk:=s1.toks) I2 _ (abn _ i k n) ?_ q;have e1:i+((0:Nat):Int)*k=i:=by simp
    have e2:(n:Int)-((0:Nat):Int)=Builtin.Range.rangeSize i j k:=by rw[c3];simp
    show IsRangeIter _ _ (i+((0:Nat):Int)*k) ((n:Int)-((0:Nat):Int)) k
    rw[e1,e2];exact aV _ rfl
def abZ{c:Int}(Pv:Nat->St->Hp->Prop)(h0:Pv 0 σ H)(hs:∀i σ H,i<n->Pv i σ H->g (.int (lo+(i:Nat)*c)) σ H λσ2 H2=>tb {D with nx:=Pv (i+1),ct:=Pv (i+1),bk:=D.nx} σ2 H2)(hd:∀σ H,Pv n σ H->D.nx σ H):
 ∃W:Nat->Nat->St->Hp->Prop,(∃m,W 0 m σ H)/\∀i m σ H,W i m σ H ->
  ((Itc lo c n).Im i H/\D.nx σ H)\/((Itc lo c n).go i H/\∃N:St->Hp->Prop,(∀σ' H',N σ' H'->∃m',m'<m/\W (i+1) m' σ' H')/\∀x H',(Itc lo c n).yld i H x H'->g x σ H' λσ2 H2=>tb {D with nx:=N,ct:=N,bk:=D.nx} σ2 H2):=by
 refine⟨λi m σ H=>m=n-i/\i<=n/\Pv i σ H,⟨n,by simp,bW _,h0⟩,?_⟩;rintro i m σ H ⟨rfl,hi,p⟩;by_cases hlt:i<n
 . refine .inr ⟨hlt,Pv (i+1),λσ' H' p'=>⟨n-(i+1),by omega,rfl,hlt,p'⟩,λx H' y=>?_⟩;obtain⟨e,y⟩:=y;subst e y;exact hs i σ _ hlt p
 . have e:i=n:=by omega
   subst e;exact .inl ⟨aH _,hd σ H p⟩
def Its(x:Str):It:=⟨λi _=>i<x.cps.size,λi H v H'=>H'=H/\∃c,x.cps[i]? = some c/\v=.str ⟨#[c]⟩,λi _=>x.cps.size<=i⟩
def abo(it:Addr)(x:Str)(t:Tok)(ty:String)(hty:ty="str_ascii_iterator"\/ty="str_iterator"):
 U9 P w K tg (Its x) [it] it (λi h=>h.IsStrIter it ty x t i) where
 mem:=by simp
 obj:=λi h st b hb=>by
  have e:b=it:=by simpa using hb
  subst e;obtain⟨o,e,c,d⟩:=st;exact⟨o,e,λv z=>by rw[d]at z;cases z⟩
 keep:=λi h h' st k=>let⟨o,ho,r⟩:=st;⟨o,k it (by simp) o ho,r⟩
 item:=by
  intro X hP hw hK hc i aN s σ H E I hf st hg;subst hP hw hK;obtain⟨f0,f1,f2,f3,f4,f5⟩:=hf it (by simp);have W:Walks X.prog X.w X.A it [it] [it] x.cps.size (SignAt x) (λi h=>h.IsStrIter it ty x t i):=by
   rcases hty with e|e
   . rw[e];exact Walks.strAscii (I.ok.hd hc) it x t
   . rw[e];exact Walks.strWide (I.ok.hd hc) it x t
  have hno:["enumerate","zip","dict_itemiterator","dict_reverseitemiterator","odict_iterator","itertools.zip_longest","itertools.pairwise"].contains ty=false:=by
   rcases hty with e|e
   . rw[e];decide
   . rw[e];decide
  refine W.item i s _ _ hg st λv h' tk hv st' kk=>?_;obtain⟨c,u,hcx,rfl⟩:=hv;have I1:d8 X aN σ H {s with heap:=h',toks:=tk}:=I.ud (λb o hb e=>kk b o (by simpa using hb) e) f0 f1 f3 f4 f5;obtain⟨oi,e,cc,dd⟩:=id st';exact⟨_,rfl,Wz (s:={s with heap:=h',toks:=tk}) e cc dd hno ⟨.str ⟨#[c]⟩,H,I1,⟨u,rfl⟩,⟨rfl,c,hcx,rfl⟩,st',λb hb=>(hf b hb).1⟩⟩
 done:=by
  intro X hP hw hK hc i aN s σ H E I hf st hg;subst hP hw hK;obtain⟨f0,f1,f2,f3,f4,f5⟩:=hf it (by simp);have hx:x.cps[i]? = none:=mz hg;rcases hty with e|e
  . rw[e]at st;exact wpAny_pyNext_ascii_end (I.ok.hd hc) st hx λh' eb=>⟨rfl,I.ud (t':=s.toks) (λb o hb e=>eb b o hb e) f0 f1 f3 f4 f5⟩
  . rw[e]at st;exact wpAny_pyNext_wide_end (I.ok.hd hc) st hx λh' eb=>⟨rfl,I.ud (t':=s.toks) (λb o hb e=>eb b o hb e) f0 f1 f3 f4 f5⟩
 self:=λA i s Q E st h=>by
  rcases hty with e|e
  . rw[e]at st;exact wpAny_pyIter_striter_ascii st h
  . rw[e]at st;exact wpAny_pyIter_striter_wide st h
def alE(te:TE):TI:=λσ H R=>te σ H λv H1=>∃x,v=.str x/\R (Its x) H1
def ajy(he:PE X e te):PI X tg e (alE te):=by
 intro aN s σ H R I h;refine nO (he aN s σ H _ I h) λv s1 ⟨y,H1,I1,r1,x,ex,q⟩=>?_;subst ex;obtain⟨t,rfl⟩:=r1
 cases ha:x.cps.all (·<128)
 . exact wpAny_pyIter_wide ha (Y7 (tk:=s1.toks) I1 _ (abo _ x t "str_iterator" (.inr rfl)) ⟨_,aV _ rfl,rfl,rfl⟩ q)
 . exact wpAny_pyIter_ascii ha (Y7 (tk:=s1.toks) I1 _ (abo _ x t "str_ascii_iterator" (.inl rfl)) ⟨_,aV _ rfl,rfl,rfl⟩ q)
def ajj{κ:Type}{gK:List (κ×V)}{vs:List (κ×Value)}(h:KV gK vs):∀{i:Nat}{k:κ}{v:V},gK[i]? = some (k,v)->∃u,vs[i]? = some (k,u)/\jt v u:=by
 unfold KV at h;induction h with
 |nil=>intro i k v e;simp at e
 |@cons a b l₁ l₂ r t ih=>
  intro i k v e
  cases i with
  |zero=>
   simp only[List.getElem?_cons_zero,lg]at e;subst e;refine⟨b.2,?_,r.2⟩;simp only[List.getElem?_cons_zero];exact j0 some (Prod.ext r.1.symm rfl)
  |succ j=>
   simp only[iY]at e ⊢;exact ih e
def gW{α β:Type}{G:α->β->Prop}{l₁:List α}{l₂:List β}(h:Paired G l₁ l₂):∀{i:Nat}{a:α},l₁[i]? = some a->∃b,l₂[i]? = some b/\G a b:=by
 induction h with
 |nil=>intro i a e;simp at e
 |@cons a b l₁ l₂ r t ih=>
  intro i a' e
  cases i with
  |zero=>
   simp only[List.getElem?_cons_zero,lg]at e;subst e;exact⟨b,rfl,r⟩
  |succ j=>
   simp only[iY]at e ⊢;exact ih e
def d8.ai4{gK:List (xF×V)}(I:d8 X aN σ H s)(h:H d=some (.frz o (.dK gK))):
 (d==sysModules)=false/\s.heap.get? d=some o/\o.ExactDict/\∃(es:Array DictEntry) (ep:Nat) (vs:List (xF×Value)),o.data=.dict es ep/\es.size=gK.length/\KV gK vs/\s.heap.DictAt (m9 X.prog X.w) d vs ep:=by
 obtain⟨hd,z,hs,vs,kv,o',es,ep,ho,hx,hdt,r⟩:=I.mC d _ h;rw[hd]at ho
 cases ho;refine⟨hs,hd,hx,es,ep,vs,hdt,?_,kv,o,es,hd,hx,hdt,r⟩;have l1:=r.2.1.length;have l2:gK.length=vs.length:=gk kv;rw[cW]at l1;omega
def Itd(d:Addr)(o:Obj)(gK:List (xF×V)):It:=
 ⟨λi H=>H d=some (.frz o (.dK gK))/\i<gK.length,λi H x H'=>H'=H/\∃k,gK[i]? = some (k,x),λi H=>H d=some (.frz o (.dK gK))/\gK.length<=i⟩
def ac9{es es':Array DictEntry}{ep ep':Nat}(h:o.data=.dict es ep)(h':o.data=.dict es' ep'):es'=es/\ep'=ep:=by
 rw[h]at h'
 cases h';exact⟨rfl,rfl⟩
section
variable{es:Array DictEntry}{ep:Nat}
def aeT{gK:List (xF×V)}(it:Addr)(hod:o.data=.dict es ep):U9 P w K tg (Itd d o gK) [it] it (λi h=>h.IsValIter it d i gK.length ep) where
 mem:=by simp
 obj:=λi h st b hb=>by
  have e:b=it:=by simpa using hb
  subst e;obtain⟨oi,e,c,dd⟩:=st;exact⟨oi,e,λv z=>by rw[dd]at z;cases z⟩
 keep:=λi h h' st k=>st.at λoi e=>k it (by simp) oi e
 item:=by
  intro X hP hw hK hc i aN s σ H E I hf st hg;subst hP hw hK;obtain⟨hd,hi⟩:=hg;obtain⟨f0,f1,f2,f3,f4,f5⟩:=hf it (by simp);obtain⟨hs,hgd,hx,es',ep',vs,hdt,hsz,kv,hm⟩:=I.ai4 hd;obtain⟨rfl,rfl⟩:=ac9 hod hdt;obtain⟨⟨k,v⟩,hkv⟩:∃p,gK[i]? = some p:=⟨gK[i],bf hi⟩;obtain⟨u,hu,ru⟩:=ajj kv hkv;have hl:gK.length=vs.length:=gk kv;rw[hl]at st;refine wpAny_pyNext_values_item st hm hu λh' st' sb=>?_;have I1:d8 X aN σ H {s with heap:=h'}:=I.ud (t':=s.toks) (λb ob hb e=>(sb.2 b hb).trans e) f0 f1 f3 f4 f5;obtain⟨oi,e,c,dd⟩:=id st';refine⟨u,rfl,Wz (s:={s with heap:=h'}) e c dd (by decide) ⟨v,H,I1,ru,⟨rfl,k,hkv⟩,?_,λb hb=>(hf b hb).1⟩⟩;show h'.IsValIter it d (i+1) gK.length _
  rw[hl];exact st'
 done:=by
  intro X hP hw hK hc i aN s σ H E I hf st hg;subst hP hw hK;obtain⟨hd,hi⟩:=hg;obtain⟨f0,f1,f2,f3,f4,f5⟩:=hf it (by simp);obtain⟨hs,hgd,hx,es',ep',vs,hdt,hsz,kv,hm⟩:=I.ai4 hd;obtain⟨rfl,rfl⟩:=ac9 hod hdt;have hl:gK.length=vs.length:=gk kv;rw[hl]at st;exact wpAny_pyNext_values_end (I.ok.hd hc) st hm (gQ (by omega)) λh' eb=>⟨rfl,I.ud (t':=s.toks) (λb ob hb e=>eb b ob hb e) f0 f1 f3 f4 f5⟩
 self:=λA i s Q E st h=>wpAny_pyIter_valiter st h
end
inductive aj3(R:It->Hp->Prop)(x:V)(H:Hp):Prop
 |mk (d:_) (o:_) (gK:_) (_:x=.ref d) (_:H d=some (.frz o (.dK gK))) (_:R (Itd d o gK) H)
def akE(td:TE):TI:=λσ H R=>td σ H (aj3 R)
section
variable{td:TE}{cpos:Pos}
def aeF(he:PE X e td)(hbase:attributeBase e "values" X.env (eval e X.env)=eval e X.env:=by rfl)(hline:(apos.endLine==cpos.line)=true:=by rfl):PI X tg (.Call (.Attribute e "values" apos) [] [] cpos) (akE td):=by
 intro aN s σ H R I h;refine wpAny_Call_method (T:="dict") (id:="dict.values") hbase rfl hline F.plainAttrs_dict F.slot_dict_values F.type_dict_values (nO (he aN s σ H _ I h) λu s1 ⟨x,H1,I1,rx,d,o,gK,ex,hd,q⟩=>?_);subst ex;obtain rfl:u=Value.ref d:=rx;obtain⟨hs,hgd,hx,es,ep,vs,hdt,hsz,kv,hm⟩:=I1.ai4 hd;have hl:gK.length=vs.length:=gk kv;refine⟨hm.dictOf.typeIs,hm.dictOf.mapOf.noDict,?_⟩;have I2:d8 X aN σ H1 {s1 with heap:=s1.heap.push {cls:=.type "dict_values",data:=.fields #[.ref d]}}:=I1.wK (t':=s1.toks) λb ob q=>aL _ q;have fin:wpAny (model X.prog X.w) X.A (pyIter (.ref s1.heap.objs.size)) (PIE X aN σ tg R) X.xe {s1 with heap:=s1.heap.push {cls:=.type "dict_values",data:=.fields #[.ref d]}}:=by
  refine wpAny_pyIter_values (d:=d) (knd:=m9 X.prog X.w) ⟨_,aV _ rfl,rfl,rfl⟩ (hm.push _) (Y7 (tk:=s1.toks) I2 _ (aeT _ hdt) ⟨_,aV _ rfl,rfl,?_⟩ q);rw[hl]<;>rfl
 show wpAny _ _ (callWith cpos (.builtin "dict.values") [.ref d] [] []) _ X.xe s1
 exact method_meetsIn F.slot_dict_values F.entry_dict_values rfl (PySem.evalArgs_none ⟨rfl,hm.dictOf.typeIs,F.args_dict_values_1 _,_,meets_dict_values (m9 X.prog X.w) d hs,⟨vs,hm.dictOf⟩,fin⟩)
end
def Ite(K:Fg)(a:Addr):It:=
 ⟨λi H=>∃(xs:List V)(x:V),fH K H a xs/\xs[i]? = some x,λi H v H'=>∃T x,v=.ref T/\H T=none/\H'=bM H T (.tup [.int (i:Nat),x])/\∀xs,fH K H a xs->xs[i]? = some x,λi H=>∃xs:List V,fH K H a xs/\xs.length<=i⟩
def aeR(a e it:Addr):
 U9 P w K (.Tuple elts kk tpos) (Ite K a) [e,it] e (λi h=>(∃old,IsEnum h e it ((i:Nat):Int) old)/\h.IsListIter it a i/\e≠it) where
 mem:=by simp
 obj:=λi h st b hb=>by
  obtain⟨⟨old,he⟩,⟨o,ho,hc,hd⟩,_⟩:=st;have e':b=e\/b=it:=by simpa using hb
  rcases e' with z|z
  . rw[z];exact⟨_,he,λv q=>nomatch q⟩
  . rw[z];exact⟨o,ho,λv q=>by rw[hd]at q;cases q⟩
 keep:=λi h h' st k=>let⟨⟨old,he⟩,hi,hne⟩:=st;⟨⟨old,k e (by simp) _ he⟩,hi.at λo q=>k it (by simp) o q,hne⟩
 item:=by
  intro X hP hw hK hc i aN s σ H E I hf st hg;subst hP hw hK;obtain⟨⟨old,he⟩,hit,hne⟩:=st;obtain⟨xs,x,hq,hx⟩:=hg;obtain⟨its,rv,p,hz⟩:=I.list hq;obtain⟨u,hu,ru⟩:=rv.get hx;have hel:e<s.heap.objs.size:=aP he;have hil:it<s.heap.objs.size:=by obtain⟨_,q,_⟩:=hit;exact aP q
  refine wpAny_pyNext_enum_item he hit p.isList (x:=u) (by simpa using hu) hne λh' ho hit' hT hsz hk=>?_;refine⟨_,rfl,wpAny_letOwnedTupleGo_enum (s:={s with heap:=h',toks:=s.toks+1}) ho λh'' he' sb=>?_⟩;have hT2:h''.get? s.heap.objs.size=some {cls:=.type "tuple",data:=.seq #[.int i s.toks,u]}:=(sb.2 _ (pA hel)).trans hT;have new:sG X.prog X.w (bM H s.heap.objs.size (.tup [.int (i:Nat),x])) h'' s.heap.objs.size (.tup [.int (i:Nat),x]):=
   ⟨by show 2<=sizeLine;decide,[.int i s.toks,u],.cons ⟨_,rfl⟩ (.cons ru .nil),⟨_,hT2,rfl,_,rfl⟩⟩
  have I1:d8 X aN σ (bM H s.heap.objs.size (.tup [.int (i:Nat),x])) {s with heap:=h'',toks:=s.toks+1}:=
   I.Xe (ch:=[e,it]) (λb ob hb q=>(sb.2 b (λz=>hb (by simp[z]))).trans (hk b ob (λz=>hb (by simp[z])) (λz=>hb (by simp[z])) q)) hf (aH _) new
  refine⟨.ref s.heap.objs.size,_,I1,rfl,⟨_,x,rfl,I.mC.fresh (aH _),rfl,λys hy=>by rw[I.S7 hy hq];exact hx⟩,⟨⟨u,?_⟩,hit'.at λo q=>(sb.2 it (Ne.symm hne)).trans q,hne⟩,λb hb=>?_⟩
  . have e1:((i+1:Nat):Int)=(i:Int)+1:=by omega
    rw[e1];exact he'
  . have hb':b<s.heap.objs.size:=by
     have e':b=e\/b=it:=by simpa using hb
     rcases e' with z|z
     . rw[z];exact hel
     . rw[z];exact hil
    rw[aM (cu hb')];exact(hf b hb).1
 done:=by
  intro X hP hw hK hc i aN s σ H E I hf st hg;subst hP hw hK;obtain⟨⟨old,he⟩,hit,hne⟩:=st;obtain⟨xs,hq,hx⟩:=hg;obtain⟨its,rv,p,hz⟩:=I.list hq;obtain⟨f0,f1,f2,f3,f4,f5⟩:=hf it (by simp);have hl:=rv.length;exact wpAny_pyNext_enum_end (I.ok.hd hc) he hit p.isList (by simp;omega) λh' eb=>⟨rfl,I.ud (t':=s.toks) (λb o hb q=>eb b o hb q) f0 f1 f3 f4 f5⟩
 self:=λA i s Q E st h=>let⟨⟨_,he⟩,_⟩:=st;lK he h
def ais(K:Fg)(ta:TA):TI:=λσ H R=>ta σ H λvs H1=>∃a xs,vs=[.ref a]/\fH K H1 a xs/\R (Ite K a) H1
def adx(hg:Gl X "enumerate")(hm:X.mg "enumerate"=none)(ha:PA X [e] ta)(hs:starEach [e] X.env=[(false,eval e X.env)]:=by rfl):
 PI X (.Tuple elts kk tpos) (.Call (.Name "enumerate" p) [e] [] pos) (ais X.K ta):=by
 intro aN s σ H R I h;refine Call_ (Kv I hg hm boot_enumerate (jM (nO (ha pos aN s σ H _ I h) λus s1 ⟨vs,H1,I1,r1,q1⟩=>?_) hs rfl));obtain⟨a,xs,ex,hq,q⟩:=q1;subst ex
 cases r1 with
 |cons r rr=>
  cases rr
  cases r;obtain⟨its,rv,p',hz⟩:=I1.list hq;refine call_enumerate_list p'.isList λh' he hit hsz hk=>lK he ?_;have I2:d8 X aN σ H1 {s1 with heap:=h'}:=I1.wK (t':=s1.toks) hk;refine⟨s1.heap.objs.size+1,[s1.heap.objs.size+1,s1.heap.objs.size],_,_,H1,rfl,I2,aeR a (s1.heap.objs.size+1) s1.heap.objs.size,⟨⟨.none,he⟩,hit,Nat.succ_ne_self _⟩,λb hb=>?_,q⟩;have e':b=s1.heap.objs.size+1\/b=s1.heap.objs.size:=by simpa using hb
  have hle:s1.heap.objs.size<=b:=by
   rcases e' with z|z
   . rw[z];exact lR _ _
   . rw[z];exact aH _
  exact I1.ab0 hle (I1.mC.fresh hle)
end L2
namespace Bits
open PySem PyProof.Rows
def aar{x:Int}(k:Nat)(hx:0<=x):Builtin.bitAnd x (2^k-1)=x%2^k:=by
 obtain⟨n,rfl⟩:=Int.eq_ofNat_of_zero_le hx;have hp:0<2^k:=Nat.two_pow_pos k;rw[two_pow_cast];have e:((2^k:Nat):Int)-1=((2^k-1:Nat):Int):=by
  generalize (2:Nat)^k=m at hp;omega
 rw[e,bitAnd_pp (by omega) (by omega),cI,cI,Nat.and_two_pow_sub_one_eq_mod];first
  |rfl
  |exact Int.natCast_emod _ _
  |simp
end Bits
namespace TL
open PySem PySem.Builtin PySem.Builtin.Str PySem.StrLaws
abbrev tl(x:Str):List Nat:=x.cps.toList
def ajk(x:Str):x.length=(tl x).length:=by simp[tl,Str.length]
def pre(S l:List Nat):Bool:=l.take S.length==S
def par(S:List Nat):List Nat->List Nat->Option (List Nat×List Nat)
 |_,[]=>none
 |acc,c::r=>if pre S (c::r)=true then some (acc,(c::r).drop S.length) else par S (acc++[c]) r
def aev{y:Str}(hy:tl y≠[]):1<=y.length:=by
 have e2:0<(tl y).length:=qX.mpr hy;rw[ajk y];exact e2
end TL
namespace L2
open PySem PySem.Spec PyProof.Rows
theorem Fy:∀{ys:List Str}{us:List Value},ie (ys.map V.str) us->StrsAre us ys
 |[],_,.nil=>.nil
 |y::ys,_,.cons r t=>by
  obtain⟨k,rfl⟩:=r;exact .cons y k (Fy t)
theorem ahv:MtR X "str.join" (λx xs H Q=>∃a p,∃ys:List Str,x=.str a/\xs=[.ref p]/\(fH X.K H p (ys.map V.str)\/Bx X.K H p (ys.map V.str)) /\
 (ys.map (·.length)).sum+ys.length*a.length<=16777216/\Q (.str (Txt.join a ys)) H):=by
 intro aN s σ H x xs v us Q I rx rs h;obtain⟨a,p,ys,rfl,rfl,hp,hz,h⟩:=h;obtain⟨t,rfl⟩:=rx
 cases rs with
 |cons r1 rs=>
  cases rs
  cases r1;rcases hp with hp|hp
  . obtain⟨its,r,⟨o,n,ho,hc,_,hd⟩,_⟩:=I.list hp;exact PyProof.Rows.join_list (items:=its.toArray) ⟨o,ho,hc,n,hd⟩ (by rw[qY];exact Fy r) hz λt' k=>⟨.str _,H,I.Dr k,⟨t',rfl⟩,h⟩
  . obtain⟨its,r,ht,_⟩:=I.tuple hp;exact PyProof.Rows.join_tuple (items:=its.toArray) ht (by rw[qY];exact Fy r) hz λt' k=>⟨.str _,H,I.Dr k,⟨t',rfl⟩,h⟩
section
variable{o:Expr}{to:TE}
def tM1(r:V->List V->Hp->VK->Prop)(to te:TE):TE:=λσ H Q=>to σ H λx H1=>(∃a,x=.str a)/\te σ H1 λy H2=>r x [y] H2 Q
def akN{id:String}{name:Str}{r:V->List V->Hp->VK->Prop}(slot:Slot "str" name id)(ty:typeOf (.builtin id)=pure (.type "method_descriptor"))(rule:MtR X id r)(ho:PE X o to)(he:PE X e te)(hs:starEach [e] X.env=[(false,eval e X.env)]:=by rfl)(hbase:attributeBase o name X.env (eval o X.env)=eval o X.env:=by rfl)(hline:(apos.endLine==pos.line)=true:=by rfl):
 PE X (.Call (.Attribute o name apos) [e] [] pos) (tM1 r to te):=by
 intro aN s σ H Q I h;refine PySem.Call_method1 hbase hs hline (nO (ho aN s σ H _ I h) λv s1 ⟨x,H1,I1,r1,q1⟩=>?_);obtain⟨⟨a,rfl⟩,q1⟩:=q1;obtain⟨t,rfl⟩:=_root_.id r1;refine⟨"str",_,F.plainAttrs_str,slot,ty,typeIs_str _ _ _,(λ_ e=>nomatch e),iM rfl (jh (gJ ?_))⟩;exact nO (he aN s1 σ H1 _ I1 q1) λu s2 ⟨y,H2,I2,r2,q2⟩=>gZ (rule aN s2 σ H2 _ [y] _ [u] Q I2 r1 (.cons r2 .nil) q2)
def ahM(ho:PE X o to)(he:PE X e te)(hs:starEach [e] X.env=[(false,eval e X.env)]:=by rfl)(hbase:attributeBase o "join" X.env (eval o X.env)=eval o X.env:=by rfl)(hline:(apos.endLine==pos.line)=true:=by rfl):
 PE X (.Call (.Attribute o "join" apos) [e] [] pos) (tM1 (λx xs H Q=>∃a p,∃ys:List Str,x=.str a/\xs=[.ref p]/\(fH X.K H p (ys.map V.str)\/Bx X.K H p (ys.map V.str)) /\
  (ys.map (·.length)).sum+ys.length*a.length<=16777216/\Q (.str (Txt.join a ys)) H) to te):=
 akN F.slot_str_join F.type_str_join ahv ho he hs hbase hline
end
end L2
namespace Att
open PySem PySem.W PySem.Calls PyProof.Rows
def QJ{P:Params}:∀(ns:List Int)(vs:List Value),WellAll P h vs (ns.map WData.int)->IntsAre vs ns:=by
 intro ns;induction ns with
 |nil=>
  intro vs w;rw[lW]at w
  cases w;exact .nil
 |cons n ns ih=>
  intro vs w;rw[bG]at w
  cases w with
  |cons a b=>
   cases a;exact .cons _ _ (ih _ b)
end Att
namespace L2
open PySem PySem.Spec PyProof.Rows
theorem Xf:∀{vs:List Value}{ns:List Int},IntsAre vs ns->ie (ns.map V.int) vs
 |_,_,.nil=>.nil
 |_,_,.cons n t h=>.cons ⟨t,rfl⟩ (Xf h)
def aiG(H:Hp):Prop:=∀b,H b=none\/∃o xs,H b=some (.frz o (.cM xs))
def mJ(s:Stmt)(j:Nat):Stmt:=match s with
 |.ClassDef _ _ _ body _ _ _ _ _ _ _=>body.getD j (.Pass ⟨0,0,0,0⟩)
 |_=>.Pass ⟨0,0,0,0⟩
def sI(s:Stmt):Arguments:=match s with
 |.FunctionDef _ a _ _ _ _ _ _ _ _=>a
 |_=>{posonlyargs:=[],args:=[],vararg:=none,kwonlyargs:=[],kw_defaults:=[],kwarg:=none,defaults:=[]}
def pC(s:Stmt):List Stmt:=match s with
 |.FunctionDef _ _ b _ _ _ _ _ _ _=>b
 |_=>[]
def aR(s:Stmt):Scope:=match s with
 |.FunctionDef _ _ _ _ _ _ sc _ _ _=>sc
 |_=>{kind:=.function,names:=[],isGenerator:=false,isCoroutine:=false}
abbrev dW:CXT:=λ_ _ _ _ _ _=>False
abbrev E0:XK:=λ_ _ _=>False
def lU:uF dW X E0:=λ_ _ _ _ _ _ _ h=>h.elim
structure j5(K:Fg)(x qual:Str)(st:Stmt)(f:Addr)(fd:FuncData):Prop where
 ex:∃(oc:Value) (od:Option Addr) (kV doc pm:Value) (an:Option Addr) (wU ct:Value) (osl:Array (Option Value)),
  fd=PySem.W.fnOf x qual (sI st) (pC st) (aR st) .none kV doc pm an wU ct/\K.lookup f=some ⟨oc,od,.func fd,osl⟩/\PySem.W.codeIn K wU qual=true
 kp:PySem.W.keepIn K (.ref f)=true
def j5.ok{qual:Str}{k:Nat}(F:j5 K x qual st f fd)(S:bz N ps (aR st))(len:∀vs H Q E,sp vs H Q E->vs.length=ps.length)(hbody:∀(wU:Value)(A:Around)(fO:List Env)(s:Shared)(H:Hp)(vs:List V)(Q:VK)(E:XK),pB k (A.deeper (envOfC qual (aR st) s.heap.objs.size f wU))->sp vs H Q E ->
 ∃t,Z5 (N5 dW P w K mg base N qual (aR st) f wU A fO s H E).nox (pC st) t/\t {nx:=λ_ H'=>Q .non H',rt:=Q} (start N vs) H):dR P w K mg base dW (k+1) f fd ps sp:=by
 obtain⟨oc,od,kV,doc,pm,an,wU,ct,osl,rfl,lk,hcd⟩:=F.ex;refine air lk hcd S len λA fO s H vs Q E hr hsp=>?_;obtain⟨t,h,q⟩:=hbody wU A fO s H vs Q E hr hsp;exact⟨t,h.nox,q⟩
def j5.mZ{qual:Str}{k:Nat}(F:j5 K x qual st f fd)(hbody:∀(wU:Value)(A:Around)(fO:List Env)(s:Shared)(H:Hp)(vs:List V)(Q:VK)(E:XK),pB k (A.deeper (envOfC qual (aR st) s.heap.objs.size f wU))->sp vs H Q E->N.Nodup ->
 ∃t,Z5 (N5 dW P w K mg base N qual (aR st) f wU A fO s H E).nox (pC st) t/\t {nx:=λ_ H'=>Q .non H',rt:=Q} (start N vs) H)(len:∀vs H Q E,sp vs H Q E->vs.length=ps.length:=by intro _ _ _ _ h;first|(cases h;subst_vars;rfl)|((repeat obtain⟨_,h⟩:=h);subst_vars;rfl))(S:bz N ps (aR st):=by exact cU):dR P w K mg base dW (k+1) f fd ps sp:=F.ok S len λa b c d e f g h i j=>hbody a b c d e f g h i j S.nd
def j5.JM{qual:Str}(F:j5 K x qual st f fd)(h:∀(kV doc pm:Value)(an:Option Addr)(wU ct:Value)(us:List Value),us.length=ps.length->bindArgs (PySem.W.fnOf x qual (sI st) (pC st) (aR st) .none kV doc pm an wU ct) ⟨us,[]⟩=pure (ps.zip us)):yO K fd ps []:=by
 obtain⟨oc,od,kV,doc,pm,an,wU,ct,osl,rfl,lk,hcd⟩:=F.ex;exact .all (h kV doc pm an wU ct)
def ab1{qual:Str}{oc:Value}{od an:Option Addr}{osl:Array (Option Value)}{kV doc pm wU ct:Value}(l:K.lookup f=some ⟨oc,od,.func (PySem.W.fnOf x qual (sI st) (pC st) (aR st) .none kV doc pm an wU ct),osl⟩)(c:PySem.W.codeIn K wU qual=true)(k:PySem.W.keepIn K (.ref f)=true):j5 K x qual st f (PySem.W.fnOf x qual (sI st) (pC st) (aR st) .none kV doc pm an wU ct):=⟨⟨oc,od,kV,doc,pm,an,wU,ct,osl,rfl,l,c⟩,k⟩
def W2(h:n<=1000):n<sizeLine:=iQ h (by decide)
def pv(i:Nat)(hN:X.N[i]? = some x:=by rfl)(hv:Vis X.env.scope x:=by first|exact Or.inl rfl|exact Or.inr (Or.inl rfl)|exact Or.inr (Or.inr rfl))(hd:(x==("__debug__":Str))=false:=by decide)(hcd:(x==("__classdict__":Str))=false:=by decide):PE X (.Name x pos) (iw i):=ajx hN hv hd hcd
inductive FvP(K:Fg)(f:Str)(o:Option (Option V))(H:Hp)(Q:VK):Prop
 |mk {a C dx:Addr} {fs:List (Str×V)} {v:V} (_:o=some (some (.ref a))) (_:H a=some (.ins C dx fs)) (_:RJ K C) (_:gB K C f) (_:fs.lookup f=some v) (_:Q v H)
def tFv(K:Fg)(i:Nat)(f:Str):TE:=λσ H Q=>FvP K f σ[i]? H Q
def aaO(i:Nat){f:Str}(hb:attributeBase (.Name x pos) f X.env (eval (.Name x pos) X.env)=eval (.Name x pos) X.env)(hN:X.N[i]? = some x:=by rfl)(hv:Vis X.env.scope x:=by first|exact Or.inl rfl|exact Or.inr (Or.inl rfl)|exact Or.inr (Or.inr rfl))(hd:(x==("__debug__":Str))=false:=by decide)(hcd:(x==("__classdict__":Str))=false:=by decide):PE X (.Attribute (.Name x pos) f pos') (tFv X.K i f):=λaN s σ H Q I ⟨e,h1,h2,h3,h4,q⟩=>aQ (ajx hN hv hd hcd) hb aN s σ H Q I ⟨_,e,_,_,_,_,_,rfl,h1,h2,h3,h4,q⟩
def ad5:Lj X (.builtin "len") (λxs H Q=>∃a gK,xs=[V.ref a]/\H a=some (.dK gK)/\Q (.int gK.length) H):=by
 intro aN s σ H xs us Q I r h;obtain⟨a,gK,rfl,ha,q⟩:=h;obtain⟨u,rfl,ru⟩:=agN r
 cases ru;exact aks I (.inl ha) λt s' I'=>⟨.int gK.length,H,I',⟨t,rfl⟩,q⟩
def cY{A:Prop}(h:B):if false=true then A else B:=by
 rw[if_neg aW];exact h
def cQ{A:Prop}(h:A):if true=true then A else B:=by
 rw[if_pos rfl];exact h
def Yr{c A:Prop}[Decidable c](h1:c->A)(h2:¬c->B):if c then A else B:=by
 by_cases h:c
 . rw[if_pos h];exact h1 h
 . rw[if_neg h];exact h2 h
def cZ(H H':Hp):Prop:=∀b o,H b=some o->H' b=some o
def cZ.trans{H2:Hp}(a:cZ H H1)(b:cZ H1 H2):cZ H H2:=λc o h=>b c o (a c o h)
def cZ.free(e:cZ H H')(h:H' l=Option.none):H l=Option.none:=by
 cases q:H l with
 |none=>rfl
 |some o=>
  rw[e l o q]at h
  cases h
def cZ.seq(e:cZ H H')(h:fH K H a xs):fH K H' a xs:=by
 rcases h with (h|⟨o,h⟩)|h
 . exact .inl (.inl (e _ _ h))
 . exact .inl (.inr ⟨o,e _ _ h⟩)
 . exact .inr h
def jN{z:Int}(e:z=(j:Int))(h:xs[j]? = some v):atI xs z=some v:=by
 rw[e];exact ag2 h
def aeN{mb:Str->Option Value}{k:Nat}{fa:Addr}{s₁:Shared}{vs:List Value}{ns out:List Int}(KX:K.In s₁.heap)(hns:s₁.heap.Ns mainGlobals mg)(hb:s₁.heap.Ns builtinsNs mb)(hbb:∀x:Str,x≠"__name__"->mb x=bootBuiltins x)(hlim:s₁.heap.NoLimit)(hg:s₁.gens=#[])(ha:s₁.heap.get? a=some {cls:=.type "list",data:=.seq vs.toArray})(hi:IntsAre vs ns)(hl:ns.length<=sizeLine)(hr:pB k callerA)(F:∀base:Heap,K.In base->base.Ns mainGlobals mg->(∀b o,s₁.heap.get? b=some o->(∀v n,o.data≠.seq v n)->base.get? b=some o)->dR P w K mg base CX k fa fd [x] sp)(hbind:∀(s:Shared)(u:Value),BindsTo s fd ⟨[u],[]⟩ [(x,u)])(hsp:∀H:Hp,aiG H->fH K H a (ns.map V.int)->sp [.ref a] H (λv H'=>∃p,v=.ref p/\H' p=some (.cM (out.map V.int))) λ_ _ _=>False)(hCX:∀H e s',CX [] H s₁ (λ_ _ _=>False) e s'->False):
 codeAny (model P w) callerA (.call (.ref fa) ⟨[.ref a],[]⟩) (λr s'=>(∃p vs' n',r=.ok (.ret (.ref p))/\s'.heap.get? p=some {cls:=.type "list",data:=.seq vs'.toArray n'}/\IntsAre vs' out)/\OldK s₁.heap s'.heap/\s'.os=s₁.os/\AllBare s'.gens) s₁:=by
 have rv:=Xf hi;have lenV:=hi.length;have core:∀H:Hp,aiG H->fH K H a (ns.map V.int)->GK P w H s₁.heap->(∀b,H b≠none->b=a)->(H a≠none->K.lookup a=none) ->
  codeAny (model P w) callerA (.call (.ref fa) ⟨[.ref a],[]⟩) (λr s'=>(∃p vs' n',r=.ok (.ret (.ref p))/\s'.heap.get? p=some {cls:=.type "list",data:=.seq vs'.toArray n'}/\IntsAre vs' out)/\OldK s₁.heap s'.heap/\s'.os=s₁.os/\AllBare s'.gens) s₁:=by
  intro H hO hS mC hA hK;have base_of:∀{b:Addr}{o:Obj},s₁.heap.get? b=some o->H b=none->(Yo s₁.heap H).get? b=some o:=λe n=>afH e n;have noA:∀{b:Addr}{o:Obj}{es:Array DictEntry}{ep:Nat},s₁.heap.get? b=some o->o.data=.dict es ep->H b=none:=fun {b o es ep} e d=>by
   cases q:H b with
   |none=>rfl
   |some u=>
    have e':b=a:=hA b (by rw[q];simp)
    subst e';rw[ha]at e;cases e;have d':Data.seq vs.toArray _=Data.dict es ep:=d
    cases d'
  have nsK:∀{b:Addr}{m:Str->Option Value},s₁.heap.Ns b m->(Yo s₁.heap H).Ns b m:=fun {b m} ⟨o,es,ep,e,d,r⟩=>⟨o,es,ep,base_of e (noA e d),d,r⟩;have hKb:K.In (Yo s₁.heap H):=λb o e=>base_of (KX b o e) (by
   cases q:H b with
   |none=>rfl
   |some u=>
    have e':b=a:=hA b (by rw[q];simp)
    subst e';rw[hK (by rw[q];simp)]at e;cases e)
  have hM:Mod K mg (Yo s₁.heap H):=⟨hKb,nsK hns,⟨mb,nsK hb,hbb⟩,let⟨mc,h1,h2⟩:=hlim;⟨mc,nsK h1,h2⟩⟩
  have e0:abz P w K mg (Yo s₁.heap H) callerA [] s₁ H:=⟨rfl,hM,λb o e=>ahz e,Nat.le_of_eq (aem _ _),trivial,λb hb=>absurd (show b∈([]:List Addr) from hb) (by simp),mC,.of_eq hg⟩;refine iR ((F _ hKb (nsK hns) (λb o e d=>base_of e (by
   cases q:H b with
   |none=>rfl
   |some u=>
    have e':b=a:=hA b (by rw[q];simp)
    subst e';rw[ha]at e
    cases e;exact(d _ _ rfl).elim))).run callerA [] s₁ H ⟨[.ref a],[]⟩ [.ref a] [.ref a] _ _ hr e0 (hbind s₁ (.ref a)) (.cons rfl .nil) (hsp H hO hS)) λr s' h=>?_
  cases r with
  |error e=>exact(hCX H e s' h).elim
  |ok fl=>
   cases fl with
   |next=>exact False.elim h
   |brk=>exact False.elim h
   |cont=>exact False.elim h
   |ret u=>
    obtain⟨v,H',os,bare,un,hok',r',q⟩:=h;obtain⟨p,rfl,hp⟩:=q;obtain rfl:u=Value.ref p:=r';obtain⟨_,its,n',rv',hob⟩:=hok' p _ hp;refine⟨⟨p,its,n',rfl,hob,rv'.aho⟩,OldK.of_keep λb o e=>?_,os,bare⟩
    cases q:H b with
    |none=>exact un.keep b o e q (by intro z;exact absurd (show b∈([]:List Addr) from z) (by simp)) (by simp)
    |some u=>
     rcases hO b with z|⟨ob,xs,z⟩
     . rw[q]at z;cases z
     . have z2:=un.Kr b ob _ z;obtain⟨e1,_⟩:=mC b _ z;obtain⟨e2,_⟩:=hok' b _ z2;rw[e]at e1;cases e1;exact e2
 cases hk:K.lookup a with
 |some o=>
  have e:=KX a o hk;rw[ha]at e
  cases e;refine core (λ_=>none) (λ_=>.inl rfl) (.inr ⟨_,vs.toArray,_,hk,rfl,rfl,rfl,by rw[bH,lenV];exact hl,by simpa using rv⟩) (λb u z=>by have z':(none:Option HO)=some u:=z;cases z') (λb z=>absurd rfl z) λz=>absurd rfl z
 |none=>
  refine core (λb=>if b=a then some (.frz {cls:=.type "list",data:=.seq vs.toArray} (.cM (ns.map V.int))) else none) (λb=>?_) (.inl (.inr ⟨{cls:=.type "list",data:=.seq vs.toArray},if_pos rfl⟩)) (λb u z=>?_) (λb z=>?_) λ_=>hk
  . by_cases hb:b=a
    . exact .inr ⟨_,_,if_pos hb⟩
    . exact .inl (if_neg hb)
  . by_cases hb:b=a
    . have z':=(if_pos hb).symm.trans z
      cases z';subst hb;exact⟨ha,by rw[aC];exact hl,vs,_,rv,ha⟩
    . have z':=(if_neg hb).symm.trans z
      cases z'
  . by_cases hb:b=a
    . exact hb
    . exact absurd (if_neg hb) z
structure abw(X:Cx)(CX:CXT)(f:Addr)(sp:Sp):Prop where
 kp:PySem.W.keepIn X.K (.ref f)=true
 fn:∃k fd ps,dR X.prog X.w X.K X.mg X.base CX k f fd ps sp/\pB k X.A/\yO X.K fd ps []
inductive ajb(X:Cx)(CX:CXT)(x:V)(R:Sp->Prop):Prop
 |mk (f:Addr) (sp:Sp) (_:x=.ref f) (_:abw X CX f sp) (_:R sp)
def ajR(X:Cx)(CX:CXT)(E:XK)(tf:TE)(t:TA):TE:=λσ H Q=>tf σ H λx H1=>ajb X CX x λsp=>t σ H1 λvs H2=>sp vs H2 Q E
def aa4{E:XK}{fe:Expr}{tf:TE}{t:TA}(hf:PE X fe tf)(hx:uF CX X E)(ha:PA X (e::es) t)(hev:eval (.Call fe (e::es) [] pos) X.env=(do callWith pos (<-eval fe X.env) [] (backTo pos (starEach (e::es) X.env)) (backToKw pos (keywordEach [] X.env))):=by rfl)(he:starEach (e::es) X.env=(false,eval e X.env)::starEach es X.env:=by rfl)(hpl:(backTo pos (starEach es X.env)).any (·.1)=false:=by rfl):
 PE X (.Call fe (e::es) [] pos) (ajR X CX E tf t):=by
 intro aN s σ H Q I h;rw[hev];refine aj (nO (hf aN s σ H _ I h) λu s1 ⟨x,H1,I1,rx,f,sp,ex,c,q⟩=>?_);subst ex;obtain rfl:u=Value.ref f:=rx;obtain⟨k,fd,ps,F,hr,hb⟩:=c.fn;refine oN (h₀:=X.base) I.ok.S8.kin c.kp (nO (ha pos aN s1 σ H1 _ I1 q) λus s2 ⟨vs,H2,I2,r,q2⟩=>⟨I2.kIn,?_⟩) he hpl;exact Uc (dvs:=[]) F hr hb .nil hx I2 r (by rw[eQ];exact q2)
def Iw(P:Program)(w:World)(C:Addr):CXT:=λfO H s E e s'=>
 ∃(ea:Addr)(a0:Value)(B:Heap)(H':Hp),e=.ref ea/\Heap.FlyingW B fO ea (.ref C) a0 s'.heap/\GK P w H' B/\s'.os=s.os/\AllBare s'.gens /\
  Un (Nm fO) [] H H' s.heap s'.heap/\(∀b o,s.heap.get? b=some o->H b=none->b∉Nm fO->B.get? b=some o)/\(∀b o,s.heap.get? b=some o->b∉Nm fO->∃o',B.get? b=some o')/\E (.ref C) none H'
def Un.slots{fs:List Addr}{h1 h2:Heap}(u:Un fs [] H H' h h1)(sm:h1.UpToSlots h2)(fd:∀b∈fs,∀o,h1.get? b=some o->∀vs,o.data≠.fields vs)(kb:∀b o,h.get? b=some o->H b=none->b∉fs->h2.get? b=some o)(tb:∀b o,h.get? b=some o->b∉fs->∃o',h2.get? b=some o'):Un fs [] H H' h h2 where
 keep:=λb o e n hb _=>kb b o e n hb
 slot:=λb o e n hb hx=>by
  obtain⟨sl,e1⟩:=u.slot b o e n hb hx;obtain⟨sl2,e2⟩:=sm b _ e1 (fd b hb _ e1);exact⟨sl2,e2⟩
 free:=u.free
 there:=λb o e hx=>by
  by_cases hb:b∈fs
  . obtain⟨o1,e1⟩:=u.there b o e hx;obtain⟨sl,e2⟩:=sm b o1 e1 (fd b hb _ e1);exact⟨_,e2⟩
  . exact tb b o e hb
 tups:=u.tups
 Kr:=u.Kr
 Pg:=u.Pg
def wV{B:Heap}:∀{l:List Env},h.FunFrames B l->∀b∈Nm l,∀o,h.get? b=some o->∀vs,o.data≠.fields vs:=by
 intro l x b hb o e vs q;obtain⟨o',ho',hd⟩:=(x.mem hb).2;rw[e]at ho'
 cases ho';exact hd vs q
section
variable{qual:Str}{cd:Value}{fO:List Env}{E:XK}
def Hn(I:d8 X aN σ H1 s1)(e:X.s₀.heap.get? b=some o)(hb:b∉X.fs)(hst:X.stack=X.env::X.fO)(hf:X.env.frame=some X.env.locals):b∉Nm X.stack:=by
 rw[hst];intro m;obtain⟨env,he,hfr⟩:=d9.mp m;rcases aJ.mp he with rfl|he
 . rw[hf]at hfr;have hb':b=X.env.locals:=(cz hfr).symm;have h1:=aP e;have h2:=I.ok.above;rw[hb']at h1;exact absurd (bZ h1 h2) (gA _)
 . exact hb (d9.mpr ⟨env,he,hfr⟩)
def xT:uF (Iw P w C) (N5 (Iw P w C) P w K mg base N qual scope f cd A fO s H E) E:=by
 intro aN σ H1 s1 e s' I h;obtain⟨ea,a0,B,H',rfl,fl,mC,os,bare,un,kb,tb,hE⟩:=h;have I2:=I.afg (ch:=[]) os un (mC.wK fl.1) bare (λb z=>absurd z (by simp));show wpAny _ _ (leaving _ _) _ _ _
 have nf:∀{b:Addr}{o:Obj},s.heap.get? b=some o->b∉Nm fO->b∉Nm (envOfC qual scope s.heap.objs.size f cd::fO):=λe hb=>Hn I e hb rfl rfl;have kb':∀b o,s.heap.get? b=some o->H b=none->b∉Nm fO->B.get? b=some o:=λb o e n hb=>
  kb b o (I.base.keep b o e n hb (by show b∉([]:List Addr);simp)) (I.base.free b o e n (by show b∉([]:List Addr);simp)) (nf e hb)
 have tb':∀b o,s.heap.get? b=some o->b∉Nm fO->∃o',B.get? b=some o':=λb o e hb=>by
  obtain⟨o1,e1⟩:=I.base.there b o e (by show b∉([]:List Addr);simp)
  exact tb b o1 e1 (nf e hb)
 refine wpAny_leaves_onW I.ok.frames rfl fl λh' fl' sm=>⟨ea,a0,B,H',rfl,fl',mC,I2.os,bare,?_,kb',tb',hE⟩;refine Un.slots I2.base sm (λb hb=>wV fl.2.2.1 b ?_) (λb o e n hb=>fl'.1 b o (kb' b o e n hb)) λb o e hb=>?_
 . obtain⟨env,he,hfr⟩:=d9.mp hb;exact d9.mpr ⟨env,cJ _ he,hfr⟩
 . obtain⟨o',e'⟩:=tb' b o e hb;exact⟨o',fl'.1 b o' e'⟩
def GK.ai8{as:List Addr}(x:GK P w H h)(n:∀b∈as,H b=none):GK P w H (PySem.W.hideAll h as):=λa o e=>by
 refine(x a o e).Rc (λb u hb q=>n8 _ q λm=>?_) (λ_ q=>q) λ_ _ q=>q;have hn:=n b m;rcases hb with rfl|hb
 . rw[e]at hn;cases hn
 . rw[hb]at hn;cases hn
def agI(C:Addr)(E:XK):TS:=λ_ _ H=>E (.ref C) none H
def agc{z:Str}{B newId initId:String}{bmB:List Value}{np cpos:Pos}(F:ExcBaseFacts B newId initId bmB)(O:OwnCls x C bmB newId mg base)(hbase:bmB.contains (.type "BaseException")=true)(hg:Gl (N5 (Iw P w C) P w K mg base N qual scope f cd A fO s H E) x)(hd:(x==("__debug__":Str))=false:=by decide):
 PS (N5 (Iw P w C) P w K mg base N qual scope f cd A fO s H E) (.Raise (some (.Call (.Name x np) [.Constant (.str z) j apos] [] cpos)) none pos) (agI C E):=by
 intro aN s1 σ H1 D I h;obtain⟨bm,N',nm,q,bs,hdct,sn,sub,ab,col,dd,k0,k1,k2,k3,k5,mN,hC,hN,hni,T⟩:=O.obj;refine wpAny_Raise_call_subT (nm:=nm) (q:=q) (N:=N') (bs:=bs) (bm:=bm) (hdct:=hdct) (sn:=sn) (sub:=sub) (ab:=ab) (col:=col) (dd:=dd) (k0:=k0) (k1:=k1) (k2:=k2) (k3:=k3) (k5:=k5) F (T.hasType hbase) (I.ok.hd rfl) rfl hni (Ed I hg O.bound ⟨rfl,?_⟩ hd);refine jh (gJ (Calls.Constant_str (x:=z) (k:=j) (pos:=apos) (gZ ?_)));refine⟨rfl,by size_fits,I.bk _ _ hC,hN.keeps I.bk,T.keeps I.bk,λh' e hm=>?_⟩;have It:=I.Dr (s1.toks+1);show wpAny _ _ (leaving _ _) _ _ _
 have hin:∀env∈(envOfC qual scope s.heap.objs.size f cd::fO),∀b,env.frame=some b->b∈(envOfC qual scope s.heap.objs.size f cd::fO).filterMap (·.frame):=λenv he b hb=>d9.mpr ⟨env,he,hb⟩;refine wpAny_leaves_madeW I.ok.frames rfl (base:=PySem.W.hideAll s1.heap (Nm (envOfC qual scope s.heap.objs.size f cd::fO))) (λb o q=>PySem.W.of_hideAll _ q) (PySem.W.funFrames_hide I.stack hin) hm λh2 t fl _ _ sm=>?_;have kb:∀b o,s.heap.get? b=some o->H b=none->b∉Nm fO->(PySem.W.hideAll s1.heap (Nm (envOfC qual scope s.heap.objs.size f cd::fO))).get? b=some o:=λb o e n hb=>
  n8 _ (I.base.keep b o e n hb (by show b∉([]:List Addr);simp)) (Hn I e hb rfl rfl)
 have tb:∀b o,s.heap.get? b=some o->b∉Nm fO->∃o',(PySem.W.hideAll s1.heap (Nm (envOfC qual scope s.heap.objs.size f cd::fO))).get? b=some o':=λb o e hb=>by
  obtain⟨o1,e1⟩:=I.base.there b o e (by show b∉([]:List Addr);simp)
  exact⟨o1,n8 _ e1 (Hn I e hb rfl rfl)⟩
 refine⟨e,_,_,H1,rfl,fl,I.mC.ai8 I.ZD,I.os,I.bare,?_,kb,tb,h⟩;refine Un.slots (h1:=s1.heap) I.base ((Heap.UpToSlots.of_keeps hm.keeps).trans sm) (λb hb=>wV I.stack b ?_) (λb o e n hb=>fl.1 b o (kb b o e n hb)) λb o e hb=>?_
 . obtain⟨env,he,hfr⟩:=d9.mp hb;exact d9.mpr ⟨env,cJ _ he,hfr⟩
 . obtain⟨o',e'⟩:=tb b o e hb;exact⟨o',fl.1 b o' e'⟩
end
def d8.afO{B:Heap}{ea:Addr}{cls a0:Value}(I1:d8 X aN σ H1 s1)(I2:d8 X aN σ H s)(fl:Heap.FlyingW B X.stack ea cls a0 h')(sm:s.heap.UpToSlots h')(mC:GK X.prog X.w H B)(ff:s.heap.FunFrames B X.stack)(kb:∀b o,s1.heap.get? b=some o->H1 b=none->b∉Nm X.stack->B.get? b=some o)(tb:∀b o,s1.heap.get? b=some o->b∉Nm X.stack->∃o',B.get? b=some o')(hst:X.stack=X.env::X.fO)(hfr:X.env.frame=some X.env.locals)(hcl:∀x,X.env.cells.lookup x=none)(hex:X.ex=[]):d8 X aN σ H {s with heap:=h'}:=by
 have sub:∀b∈X.fs,b∈Nm X.stack:=λb hb=>by
  obtain⟨env,he,hf⟩:=d9.mp hb;rw[hst];exact d9.mpr ⟨env,cJ _ he,hf⟩
 have nx:∀b:Addr,b∉X.ex:=λb=>by rw[hex];simp
 have kb0:∀b o,X.s₀.heap.get? b=some o->X.H₀ b=none->b∉X.fs->h'.get? b=some o:=λb o e n hb=>
  fl.1 b o (kb b o (I1.base.keep b o e n hb (nx b)) (I1.base.free b o e n (nx b)) (Hn I1 e hb hst hfr))
 have tb0:∀b o,X.s₀.heap.get? b=some o->b∉X.fs->∃o',h'.get? b=some o':=λb o e hb=>by
  obtain⟨o1,e1⟩:=I1.base.there b o e (nx b);obtain⟨o2,e2⟩:=tb b o1 e1 (Hn I1 e hb hst hfr);exact⟨o2,fl.1 b o2 e2⟩
 have hb0:Un X.fs [] X.H₀ H X.s₀.heap s.heap:=by have:=I2.base;rw[hex]at this;exact this
 refine⟨I2.ok,I2.os,I2.bare,?_,?_,λx c e=>?_,I2.free,I2.tD,λp hp=>?_,mC.wK fl.1,I2.len⟩
 . rw[hex];exact Un.slots hb0 sm (λb hb=>wV ff b (sub b hb)) kb0 tb0
 . obtain⟨m,hn,hl⟩:=I2.PL;refine⟨m,sm.ns hn,λi x v h1 h2 h3=>?_⟩;obtain⟨u,r,l⟩:=hl i x v h1 h2 h3;refine⟨u,r,?_⟩;rcases l with l|⟨_,c,hc,_⟩
   . exact .inl l
   . rw[hcl]at hc;cases hc
 . rw[hcl]at e;cases e
 . obtain⟨e,n,nl,nf,d⟩:=I1.Qc p hp;refine⟨fl.1 _ _ (kb p.1 p.2 e n λhm=>?_),(I2.Qc p hp).2.1,nl,nf,d⟩;rw[hst]at hm;obtain⟨env,he,hf⟩:=d9.mp hm;rcases aJ.mp he with rfl|he
   . rw[hfr]at hf;exact nl (cz hf).symm
   . exact nf (d9.mpr ⟨env,he,hf⟩)
abbrev Cx.Io(X:Cx)(e:Value)(xe:Value->Shared->Prop):Cx:={X with A:=X.A.mark (some e),calm:=false,xe:=xe}
abbrev Cx.body(X:Cx)(xe:Value->Shared->Prop)(pn:List (Addr×Obj)):Cx:={X with xe:=xe,pn:=pn}
section
variable{e:Value}{xe:Value->Shared->Prop}
def d8.Io(I:d8 X aN σ H s)(e:Value)(xe:Value->Shared->Prop):d8 (X.Io e xe) aN σ H s:=
 ⟨⟨I.ok.S8,I.ok.kind,I.ok.SJ,I.ok.blt,I.ok.above,I.ok.inj,I.ok.has,I.ok.cab,λh=>absurd h aW,I.ok.frames,I.ok.stk,I.ok.exf,I.ok.bs,I.ok.bsz,I.ok.acg,I.ok.aaH,I.ok.Ks,I.ok.frf⟩,I.os,I.bare,I.base,I.PL,I.cell,I.free,I.tD,I.Qc,I.mC,I.len⟩
def d8.Jf(ok:X.Ok)(I:d8 (X.Io e xe) aN σ H s):d8 X aN σ H s:=⟨ok,I.os,I.bare,I.base,I.PL,I.cell,I.free,I.tD,I.Qc,I.mC,I.len⟩
def d8.body(I:d8 X aN σ H s)(xe:Value->Shared->Prop):d8 (X.body xe (X.pn++aN)) [] σ H s:=
 ⟨⟨I.ok.S8,I.ok.kind,I.ok.SJ,I.ok.blt,I.ok.above,I.ok.inj,I.ok.has,I.ok.cab,I.ok.hd,I.ok.frames,I.ok.stk,I.ok.exf,I.ok.bs,I.ok.bsz,I.ok.acg,I.ok.aaH,I.ok.Ks,I.ok.frf⟩,I.os,I.bare,I.base,I.PL,I.cell,I.free,I.tD,
  λp hp=>I.Qc p (by rw[eQ]at hp;exact hp),I.mC,I.len⟩
def d8.Ir{pins':List (Addr×Obj)}(ok:X.Ok)(I:d8 (X.body xe (X.pn++aN)) pins' σ H s):d8 X aN σ H s:=
 ⟨ok,I.os,I.bare,I.base,I.PL,I.cell,I.free,I.tD,λp hp=>I.Qc p (bY _ hp),I.mC,I.len⟩
def SP.Jf{D:Z4}{f:Flow}(ok:X.Ok)(h:SP (X.Io e xe) aN D f s):SP X aN D f s:=by
 cases f with
 |next=>obtain⟨σ',H',I,q⟩:=h;exact⟨σ',H',I.Jf ok,q⟩
 |brk=>obtain⟨σ',H',I,q⟩:=h;exact⟨σ',H',I.Jf ok,q⟩
 |cont=>obtain⟨σ',H',I,q⟩:=h;exact⟨σ',H',I.Jf ok,q⟩
 |ret u=>obtain⟨v,σ',H',I,r,q⟩:=h;exact⟨v,σ',H',I.Jf ok,r,q⟩
def SP.Ir{pins':List (Addr×Obj)}{D:Z4}{f:Flow}(ok:X.Ok)(h:SP (X.body xe (X.pn++aN)) pins' D f s):SP X aN D f s:=by
 cases f with
 |next=>obtain⟨σ',H',I,q⟩:=h;exact⟨σ',H',I.Ir ok,q⟩
 |brk=>obtain⟨σ',H',I,q⟩:=h;exact⟨σ',H',I.Ir ok,q⟩
 |cont=>obtain⟨σ',H',I,q⟩:=h;exact⟨σ',H',I.Ir ok,q⟩
 |ret u=>obtain⟨v,σ',H',I,r,q⟩:=h;exact⟨v,σ',H',I.Ir ok,r,q⟩
end
def al4(tb:XK->TS)(ts:TS):TS:=λD σ H=>tb (λ_ _ H'=>∀σ',ts D σ' H') D σ H
def ajA{bmB:List Value}{newId:String}{body:List Stmt}{b₀:Stmt}{Io:List Stmt}{np hpos:Pos}{tb:XK->TS}{ts:TS}(O:OwnClsQ x C bmB newId X.mg X.base)(hbase:bmB.contains (.type "BaseException")=true)(hst:X.stack=X.env::X.fO)(hfr:X.env.frame=some X.env.locals)(hcl:∀x,X.env.cells.lookup x=none)(hex:X.ex=[])(hxe:X.xe=λ_ _=>False)(hg:Gl X x)(hb:∀(xe:Value->Shared->Prop) (pn:List (Addr×Obj)) (E:XK),uF (Iw X.prog X.w C) (X.body xe pn) E->Z5 (X.body xe pn) body (tb E))(hs:∀e:Value,Z5 (X.Io e X.xe) (b₀::Io) ts)(hd:(x==("__debug__":Str))=false:=by decide):
 PS X (.Try body [.ExceptHandler (some (.Name x np)) none (b₀::Io) hpos] [] [] pos) (al4 tb ts):=by
 intro aN s σ H D I h;refine wpAny_Try_except ?_;have pass:uF (Iw X.prog X.w C) (X.body (λe s₁=>wpAny (model X.prog X.w) X.A (noteFrame e X.env) (λ_ s₂=>wpAny (model X.prog X.w) X.A (setFlight e none) (λ_ s₃=>
  wpAny (model X.prog X.w) X.A (handleBy e X.env [.ExceptHandler (some (.Name x np)) none (b₀::Io) hpos]) (SP X aN D) X.xe s₃) X.xe s₂) X.xe s₁) (X.pn++aN)) (λ_ _ H'=>∀σ',ts D σ' H'):=by
  intro pins' σ' H1 s1 e s' I1 hc;obtain⟨ea,a0,B,H',rfl,fl,mC,os,bare,un,kb,tb',hE⟩:=hc;have I2:d8 X aN σ' H' s':=(I1.afg (ch:=[]) os un (mC.wK fl.1) bare (λb z=>absurd z (by simp))).Ir I.ok;have fl:Heap.FlyingW B X.stack ea (.ref C) a0 s'.heap:=fl;have I1:d8 X aN σ' H1 s1:=I1.Ir I.ok;show wpAny _ _ (noteFrame _ _) _ _ _
  refine wpAny_looks_onW (by rw[<-hst];exact I.ok.frames) hfr (by rw[<-hst];exact fl) λh₄ held₄ sm₄=>?_
  refine wpAny_landsW held₄ λh₅ fl₅ sm₅=>?_;have fl₅:Heap.FlyingW B X.stack ea (.ref C) a0 h₅:=by rw[hst];exact fl₅
  have I5:d8 X aN σ' H' {s' with heap:=h₅}:=d8.afO I1 I2 fl₅ (sm₄.trans sm₅) mC fl.2.2.1 kb tb' hst hfr hcl hex;refine handleBy_own hbase (Ed (I5.Io (.ref ea) (notedBy (model X.prog X.w) (X.A.mark (some (.ref ea))) X.env (cameBackBy (model X.prog X.w) X.A X.env X.xe))) hg O.bound ⟨rfl,O.keeps I5.bk,fl₅.there,?_⟩ hd);refine lands_againW fl₅ λh₆ fl₆ sm₆=>?_;have I6:d8 X aN σ' H' {s' with heap:=h₆}:=d8.afO I1 I2 fl₆ ((sm₄.trans sm₅).trans sm₆) mC fl.2.2.1 kb tb' hst hfr hcl hex;refine dj (hs (.ref ea) aN _ σ' H' D (I6.Io _ _) (hE σ')) (λf s7 q=>q.Jf I.ok) λe7 s7 q=>?_;have q:X.xe e7 s7:=q;rw[hxe]at q;exact q.elim
 have hb':=hb _ (X.pn++aN) _ pass [] s σ H D (I.body _) h;refine dj hb' (λf s1 q=>?_) λe s1 q=>q;have q:=q.Ir I.ok
 cases f with
 |next=>exact j8 q
 |ret v=>exact q
 |brk=>exact q
 |cont=>exact q
end L2
variable{bits m p ep sl nt fl:Nat}{b y:Rb}{l:List Int}{x kind flags stream weight_held weight_allowed place:Int}{c:List (List Int)}{X Y:List PySem.Addr}{value name fixed_ones newest_first block dx S I T:PySem.Addr}{H2:L2.Hp}{v:PySem.Value}{Q:Option PySem.Value->PySem.Shared->Prop}{oT:PySem.Obj}{Sf:Int->Bool}
open Rc28 (CALM PREFACE TOP blank full goodAnswer goodTrailers idle lowName room_ sizeOf_)
namespace My
open Rc28
def ag5(n x:Nat):be (n+1) x=UInt8.ofNat (x / 256^n%256)::be n x:=by
 unfold be;rw[oZ,bG,gH];congr 1;apply nZ;intro i hi;have:=pK.mp hi;show UInt8.ofNat (x / 256^(n+1-1-(i+1))%256)=UInt8.ofNat (x / 256^(n-1-i)%256)
 rw[show n+1-1-(i+1)=n-1-i by omega]
theorem nq(n x:Nat):(be n x).length=n:=by unfold be;rw[aC,iD]
def aaW(b:Bytes)(c:UInt8):num (b++[c])=256*num b+c.toNat:=by
 unfold num;rw[List.foldl_append];rfl
def aci:∀(n:Nat)(b:Bytes),b.length=n->num b<256^n:=by
 intro n;induction n with
 |zero=>intro b h;cases b with
  |nil=>decide
  |cons _ _=>simp at h
 |succ n ih=>
  intro b h;have hne:b≠[]:=by intro e;rw[e]at h;simp at h
  rw[<-jC hne,aaW];have h1:=ih b.dropLast (by rw[List.length_dropLast,h];omega)
  have h2:(b.getLast hne).toNat<256:=(b.getLast hne).toNat_lt;rw[Nat.pow_succ];omega
def UJ(n:Nat)(h:n<256):(UInt8.ofNat n).toNat=n:=by
 rw[UInt8.toNat_ofNat'];omega
def tw(l:List Header):Nat:=(l.map weight).sum
theorem UG:tw []=0:=rfl
def FJ(h:Header)(l:List Header):tw (h::l)=weight h+tw l:=by unfold tw;rw[bG,jq]
def aia(l:List Header)(h:Header):tw (l++[h])=tw l+weight h:=by
 unfold tw;rw[dm,List.sum_append];simp
theorem Px:∀(l:List Header)(m:Nat),tw l<=m->fitting m l=l
 |[],_,_=>rfl
 |h::r,m,hm=>by
  rw[FJ]at hm;unfold fitting;rw[if_neg (by omega),Px r _ (by omega)]
theorem Ml:∀(l:List Header)(m:Nat)(h:Header),m<tw (l++[h])->fitting m (l++[h])=fitting m l
 |[],m,h,hm=>by
  have e:tw ([]++[h])=weight h:=by rw[mD,FJ,UG,Nat.add_zero]
  rw[e]at hm;show (if m<weight h then [] else h::fitting (m-weight h) [])=[]
  rw[if_pos hm]
 |x::r,m,h,hm=>by
  rw[jU,FJ]at hm;show (if m<weight x then [] else x::fitting (m-weight x) (r++[h]))=(if m<weight x then [] else x::fitting (m-weight x) r)
  by_cases c:m<weight x
  . rw[if_pos c,if_pos c]
  . rw[if_neg c,if_neg c,Ml r _ h (by omega)]
theorem Bo:∀(l:List Header)(m:Nat),tw (fitting m l)<=m
 |[],m=>by unfold fitting;rw[UG];omega
 |h::r,m=>by
  unfold fitting;by_cases c:m<weight h
  . rw[if_pos c,UG];omega
  . rw[if_neg c,FJ];have:=Bo r (m-weight h);omega
theorem aaT:∀(f n k:Nat)(b:Bytes)(x:Nat×Bytes),more f n k b=some x->x.2.length<b.length
 |0,_,_,_,_,h=>by simp[more]at h
 |_+1,_,_,[],_,h=>by simp[more]at h
 |f+1,n,k,c::r,x,h=>by
  unfold more at h;by_cases q:c.toNat<128
  . rw[if_pos q]at h;cases h;simp
  . rw[if_neg q]at h;have:=aaT f _ _ r x h;rw[bj];omega
def rN{b:Bytes}{x:Nat×Bytes}(h:intIn bits b=some x):x.2.length<b.length:=by
 cases b with
 |nil=>simp[intIn]at h
 |cons c r=>
  unfold intIn at h;dsimp only at h;by_cases q:c.toNat%2^bits<2^bits-1
  . rw[if_pos q]at h;cases h;simp
  . rw[if_neg q]at h;have:=aaT 4 _ _ r x h;rw[bj];omega
def Uz{b:Bytes}{x:Bytes×Bytes}(h:textIn b=some x):x.2.length<b.length:=by
 unfold textIn at h;split at h
 . cases h
 . cases e:intIn 7 b with
   |none=>rw[e]at h;cases h
   |some y=>
    rw[e]at h;simp only[Option.bind_some]at h;split at h
    . cases h
    . cases h;have:=rN e;simp only[bu];omega
def Fz{t:Table}{b:Bytes}{x:Header×Bytes}(h:toldIn t bits b=some x):x.2.length<b.length:=by
 unfold toldIn at h
 cases e:intIn bits b with
 |none=>rw[e]at h;cases h
 |some y=>
  rw[e]at h;simp only[Option.bind_some]at h;have h1:=rN e
  cases e2:(if y.1=0 then textIn y.2 else (t.at_ y.1).map λh=>(h.1,y.2)) with
  |none=>rw[e2]at h;cases h
  |some n=>
   rw[e2]at h;simp only[Option.bind_some]at h;have hn:n.2.length<=y.2.length:=by
    split at e2
    . exact kJ (Uz e2)
    . cases e3:t.at_ y.1 with
      |none=>rw[e3]at e2;cases e2
      |some z=>rw[e3]at e2;cases e2;exact aH _
   cases e3:textIn n.2 with
   |none=>rw[e3]at h;cases h
   |some v=>
    rw[e3]at h
    cases h;have:=Uz e3;show v.2.length<_
    omega
def abp:∀(f g:Nat)(e:Bool)(t:Table)(b:Bytes),b.length<f->b.length<g->unpack f e t b=unpack g e t b:=by
 intro f;induction f with
 |zero=>intro g e t b h;omega
 |succ f ih=>
  intro g e t b hf hg
  cases g with
  |zero=>omega
  |succ g=>
   cases b with
   |nil=>rfl
   |cons c r=>
    rw[bj]at hf hg;unfold unpack;have i7:∀x,intIn 7 (c::r)=some x->∀e t,unpack f e t x.2=unpack g e t x.2:=λx hx e t=>by
     have:=rN hx;rw[bj]at this;exact ih g e t _ (by omega) (by omega)
    have i5:∀x,intIn 5 (c::r)=some x->∀e t,unpack f e t x.2=unpack g e t x.2:=λx hx e t=>by
     have:=rN hx;rw[bj]at this;exact ih g e t _ (by omega) (by omega)
    have it:∀bits x,toldIn t bits (c::r)=some x->∀e t,unpack f e t x.2=unpack g e t x.2:=λbits x hx e t=>by
     have:=Fz hx;rw[bj]at this;exact ih g e t _ (by omega) (by omega)
    by_cases q1:128<=c.toNat
    . rw[if_pos q1,if_pos q1]
      cases e1:intIn 7 (c::r) with
      |none=>rfl
      |some x=>simp only[Option.bind_some];rw[i7 x e1]
    . rw[if_neg q1,if_neg q1];by_cases q2:64<=c.toNat
      . rw[if_pos q2,if_pos q2]
        cases e1:toldIn t 6 (c::r) with
        |none=>rfl
        |some x=>simp only[Option.bind_some];rw[it 6 x e1]
      . rw[if_neg q2,if_neg q2];by_cases q3:32<=c.toNat
        . rw[if_pos q3,if_pos q3]
          cases e1:intIn 5 (c::r) with
          |none=>rfl
          |some x=>simp only[Option.bind_some];rw[i5 x e1]
        . rw[if_neg q3,if_neg q3]
          cases e1:toldIn t 4 (c::r) with
          |none=>rfl
          |some x=>simp only[Option.bind_some];rw[it 4 x e1]
def U(e:Bool)(t:Table)(b:Bytes):Option (List Header×Table):=unpack (b.length+1) e t b
def ae2(e:Bool)(t:Table):U e t []=some ([],t):=rfl
def abC(e:Bool)(t:Table)(c:UInt8)(r:Bytes):U e t (c::r) =
 if 128<=c.toNat then (intIn 7 (c::r)).bind λx=>(t.at_ x.1).bind λh=>(U false t x.2).map λy=>(h::y.1,y.2)
 else if 64<=c.toNat then (toldIn t 6 (c::r)).bind λx=>(U false (t.add x.1) x.2).map λy=>(x.1::y.1,y.2)
 else if 32<=c.toNat then (intIn 5 (c::r)).bind λx=>if e=true/\x.1<=4096 then U true {most:=x.1,rows:=fitting x.1 t.rows} x.2 else none
 else (toldIn t 4 (c::r)).bind λx=>(U false t x.2).map λy=>(x.1::y.1,y.2):=by
 have fu:∀(x:Bytes)(e:Bool)(t:Table),x.length<(c::r).length->unpack (c::r).length e t x=U e t x:=λx e t h=>abp _ _ e t x h (by omega);show unpack ((c::r).length+1) e t (c::r)=_
 rw[unpack];split
 . cases e1:intIn 7 (c::r) with
   |none=>rfl
   |some x=>simp only[Option.bind_some];rw[fu _ _ _ (rN e1)]
 . split
   . cases e1:toldIn t 6 (c::r) with
     |none=>rfl
     |some x=>simp only[Option.bind_some];rw[fu _ _ _ (Fz e1)]
   . split
     . cases e1:intIn 5 (c::r) with
       |none=>rfl
       |some x=>simp only[Option.bind_some];rw[fu _ _ _ (rN e1)]
     . cases e1:toldIn t 4 (c::r) with
       |none=>rfl
       |some x=>simp only[Option.bind_some];rw[fu _ _ _ (Fz e1)]
structure Wh(t:Table):Prop where
 most:t.most<=4096
 fit:tw t.rows<=t.most
def ajX{l:List Header}{h:Header}(m:h∈l):weight h<=tw l:=by
 induction l with
 |nil=>cases m
 |cons a r ih=>
  rw[FJ];rcases aJ.mp m with rfl|m
  . omega
  . have:=ih m;omega
def hl(h:Header):Nat:=h.1.length+h.2.length
def afA:∀h∈FIXED,hl h<=4000:=by decide +kernel
def ail{t:Table}(T:Wh t){h:Header}(e:t.at_ i=some h):hl h<=4096:=by
 unfold Table.at_ at e;split at e
 . cases e
 . split at e
   . have:=afA h (cD e);omega
   . have:=ajX (cD e);have h1:=T.most;have h2:=T.fit;unfold weight at this;unfold hl;omega
def Wh.add{t:Table}(T:Wh t)(h:Header):Wh (t.add h):=⟨T.most,Bo _ _⟩
def Xc{b:Bytes}{x:Bytes×Bytes}(h:textIn b=some x):x.1.length+x.2.length<b.length:=by
 unfold textIn at h;split at h
 . cases h
 . cases e:intIn 7 b with
   |none=>rw[e]at h;cases h
   |some y=>
    rw[e]at h;simp only[Option.bind_some]at h;split at h
    . cases h
    . cases h;have:=rN e;simp only[bu,aY];omega
def Xd{t:Table}(T:Wh t){b:Bytes}{x:Header×Bytes}(h:toldIn t bits b=some x):hl x.1+x.2.length<4096+b.length/\x.2.length<b.length:=by
 refine⟨?_,Fz h⟩;unfold toldIn at h
 cases e:intIn bits b with
 |none=>rw[e]at h;cases h
 |some y=>
  rw[e]at h;simp only[Option.bind_some]at h;have h1:=rN e
  cases e2:(if y.1=0 then textIn y.2 else (t.at_ y.1).map λh=>(h.1,y.2)) with
  |none=>rw[e2]at h;cases h
  |some n=>
   rw[e2]at h;simp only[Option.bind_some]at h;have hn:n.1.length+n.2.length<=4096+y.2.length:=by
    split at e2
    . have:=Xc e2;omega
    . cases e3:t.at_ y.1 with
      |none=>rw[e3]at e2;cases e2
      |some z=>
       rw[e3]at e2;cases e2;have:=ail T e3;unfold hl at this;show z.1.length+y.2.length<=_
       omega
   cases e3:textIn n.2 with
   |none=>rw[e3]at h;cases h
   |some v=>
    rw[e3]at h
    cases h;have:=Xc e3;show n.1.length+v.1.length+v.2.length<_
    omega
def aki:∀(m:Nat)(e:Bool)(t:Table)(b:Bytes)(l:List Header)(t':Table),b.length<=m->Wh t->U e t b=some (l,t')->Wh t'/\l.length<=b.length/\∀h∈l,hl h<=4096+b.length:=by
 intro m;induction m with
 |zero=>
  intro e t b l t' hb T h;have:b=[]:=lJ (by omega);subst this;rw[ae2]at h;cases h;exact⟨T,aH _,λ_ m=>by cases m⟩
 |succ m ih=>
  intro e t b l t' hb T h
  cases b with
  |nil=>
   rw[ae2]at h;cases h;exact⟨T,aH _,λ_ m=>by cases m⟩
  |cons c r=>
   rw[abC]at h;have cons:∀(z:Header)(e:Bool)(tt:Table)(b':Bytes),Wh tt->b'.length<(c::r).length->hl z<=4096+(c::r).length->(U e tt b').map (λy=>(z::y.1,y.2))=some (l,t')->Wh t'/\l.length<=(c::r).length/\∀h∈l,hl h<=4096+(c::r).length:=by
    intro z e tt b' T' hlt hz q
    cases e1:U e tt b' with
    |none=>rw[e1]at q;cases q
    |some y=>
     rw[e1]at q
     cases q;obtain⟨a1,a2,a3⟩:=ih e tt b' y.1 y.2 (by omega) T' e1;refine⟨a1,by rw[bj];omega,λh mh=>?_⟩
     rcases aJ.mp mh with rfl|mh
     . exact hz
     . have:=a3 h mh;omega
   split at h
   . cases e1:intIn 7 (c::r) with
     |none=>rw[e1]at h;cases h
     |some x=>
      rw[e1]at h;simp only[Option.bind_some]at h
      cases e2:t.at_ x.1 with
      |none=>rw[e2]at h;cases h
      |some z=>
       rw[e2]at h;simp only[Option.bind_some]at h;have:=ail T e2;exact cons z _ _ _ T (rN e1) (by omega) h
   . split at h
     . cases e1:toldIn t 6 (c::r) with
       |none=>rw[e1]at h;cases h
       |some x=>
        rw[e1]at h;simp only[Option.bind_some]at h;have:=Xd T e1;exact cons x.1 _ _ _ (T.add _) this.2 (by omega) h
     . split at h
       . cases e1:intIn 5 (c::r) with
         |none=>rw[e1]at h;cases h
         |some x=>
          rw[e1]at h;simp only[Option.bind_some]at h;split at h
          . rename_i hc;have hlt:=rN e1;obtain⟨a1,a2,a3⟩:=ih _ _ _ _ _ (by omega) ⟨hc.2,Bo _ _⟩ h;exact⟨a1,by omega,λh mh=>by have:=a3 h mh;omega⟩
          . cases h
       . cases e1:toldIn t 4 (c::r) with
         |none=>rw[e1]at h;cases h
         |some x=>
          rw[e1]at h;simp only[Option.bind_some]at h;have:=Xd T e1;exact cons x.1 _ _ _ T this.2 (by omega) h
def Ez(n:Nat):Event->Prop
 |.request _ l _=>l.length<=n/\∀h∈l,hl h<=4096+n
 |.trailers _ l=>l.length<=n/\∀h∈l,hl h<=4096+n
 |.data _ b _=>b.length<=n
 |.reset _ c=>c<2^32
 |.away c=>c<2^32
theorem Ez.mono(h:n<=m):∀{e:Event},Ez n e->Ez m e
 |.request _ _ _,⟨a,b⟩=>⟨by omega,λx mx=>by have:=b x mx;omega⟩
 |.trailers _ _,⟨a,b⟩=>⟨by omega,λx mx=>by have:=b x mx;omega⟩
 |.data _ _ _,a=>by show _<=m;have:_<=n:=a;omega
 |.reset _ _,a=>a
 |.away _,a=>a
def bl(s:Abs):Nat:=match s.block with
 |none=>0
 |some k=>k.bytes.length
structure Sz(n:Nat)(s:Abs):Prop where
 pb:s.part.length+bl s<=n
 yd:Wh s.table
 ev:∀e∈s.events,Ez n e
 now:∀e,s.now=some e->Ez n e
 evs:s.events.length<=n
 out:s.out.length<=26*n
 str:s.streams.length<=32
 nd:(s.streams.map (·.id)).Nodup
 Hg:∀x∈s.streams,x.id%2=1/\x.id<=s.highest
 hi:s.highest<2^31
 start:s.start<=24
 U0:∀k,s.block=some k->k.id%2=1/\k.id<2^31
structure Sy(n:Nat)(s:Abs):Prop where
 pb:s.part.length+bl s<=n
 yd:Wh s.table
 ev:∀e∈s.events,Ez n e
 now:∀e,s.now=some e->Ez n e
 str:s.streams.length<=32
 nd:(s.streams.map (·.id)).Nodup
 Hg:∀x∈s.streams,x.id%2=1/\x.id<=s.highest
 hi:s.highest<2^31
 start:s.start<=24
 U0:∀k,s.block=some k->k.id%2=1/\k.id<2^31
def Sz.sy{s:Abs}(z:Sz n s):Sy n s:=⟨z.pb,z.yd,z.ev,z.now,z.str,z.nd,z.Hg,z.hi,z.start,z.U0⟩
def Sy.sz{s:Abs}(z:Sy n s)(o:s.out.length<=26*n)(e:s.events.length<=n):Sz n s:=⟨z.pb,z.yd,z.ev,z.now,e,o,z.str,z.nd,z.Hg,z.hi,z.start,z.U0⟩
def Sy.mono{n m:Nat}{s:Abs}(z:Sy n s)(h:n<=m):Sy m s:=⟨cG z.pb h,z.yd,λe me=>(z.ev e me).mono h,λe me=>(z.now e me).mono h,z.str,z.nd,z.Hg,z.hi,z.start,z.U0⟩
def ur(t f i:Nat)(b:Bytes):(frame t f i b).length=9+b.length:=by
 unfold frame;simp only[aF,bj,nq];omega
def Sy.send{n:Nat}{s:Abs}(z:Sy n s)(t f i:Nat)(b:Bytes):Sy n (send s t f i b):=⟨z.pb,z.yd,z.ev,z.now,z.str,z.nd,z.Hg,z.hi,z.start,z.U0⟩
def Sy.die{n:Nat}{s:Abs}(z:Sy n s)(c:Nat):Sy n (die s c):=⟨by show s.part.length+0<=n;have:=z.pb;omega,z.yd,z.ev,z.now,z.str,z.nd,z.Hg,z.hi,z.start,λk e=>by cases e⟩
def Oe{l:List Stream}{p:Stream->Bool}(h:(l.map (·.id)).Nodup):((l.filter p).map (·.id)).Nodup:=
 h.sublist ((List.filter_sublist).map _)
def Sy.drop{n:Nat}{s:Abs}(z:Sy n s)(i:Nat):Sy n (drop s i):=
 ⟨z.pb,z.yd,z.ev,z.now,cG (List.length_filter_le _ _) z.str,Oe z.nd,λx m=>z.Hg x (List.mem_filter.mp m).1,z.hi,z.start,z.U0⟩
def Sy.fail{n:Nat}{s:Abs}(z:Sy n s)(i c:Nat):Sy n (fail s i c):=(z.send ..).drop i
def Sy.tell{n:Nat}{s:Abs}(z:Sy n s){e:Event}(h:Ez n e):Sy n (tell s e):=⟨z.pb,z.yd,λx m=>by
 rcases dY.mp m with m|m
 . exact z.ev x m
 . rw[ak.mp m];exact h,z.now,z.str,z.nd,z.Hg,z.hi,z.start,z.U0⟩
def Sy.change{n:Nat}{s:Abs}(z:Sy n s)(i:Nat){f:Stream->Stream}(hf:∀x,(f x).id=x.id):Sy n (change s i f):=by
 have e:∀x:Stream,(if x.id=i then f x else x).id=x.id:=λx=>by
  by_cases q:x.id=i
  . rw[if_pos q];exact hf x
  . rw[if_neg q]
 refine⟨z.pb,z.yd,z.ev,z.now,?_,?_,?_,z.hi,z.start,z.U0⟩
 . show (s.streams.map _).length<=32;rw[aC];exact z.str
 . show ((s.streams.map λx=>if x.id=i then f x else x).map (·.id)).Nodup
   rw[gH];have:((λx:Stream=>x.id) ∘ λx=>if x.id=i then f x else x)=λx=>x.id:=by funext x;exact e x
   rw[this];exact z.nd
 . intro x m;obtain⟨y,my,rfl⟩:=fL.mp m;rw[e y];exact z.Hg y my
structure Gr(a k:Nat)(s s':Abs):Prop where
 out:s'.out.length<=s.out.length+a
 ev:s'.events.length<=s.events.length+k
def Gr.refl(s:Abs):Gr 0 0 s s:=⟨aH _,aH _⟩
def Gr.trans{a b k:Nat}{s t u:Abs}(x:Gr a k s t)(y:Gr b m t u):Gr (a+b) (k+m) s u:=⟨by have:=x.out;have:=y.out;omega,by have:=x.ev;have:=y.ev;omega⟩
def Gr.mono{a b k:Nat}{s t:Abs}(x:Gr a k s t)(h:a<=b)(h':k<=m):Gr b m s t:=⟨by have:=x.out;omega,by have:=x.ev;omega⟩
def Ym(s:Abs)(t f i:Nat)(b:Bytes):Gr (9+b.length) 0 s (send s t f i b):=⟨by show (s.out++_).length<=_;rw[aF,ur];exact aH _,aH _⟩
def aaL(s:Abs)(t f i x:Nat):Gr 13 0 s (send s t f i (be 4 x)):=(Ym s t f i (be 4 x)).mono (by rw[nq];decide) (by decide)
def Yl(s:Abs)(c:Nat):Gr 17 0 s (die s c):=⟨by
 show (s.out++_).length<=_
 rw[aF,ur,aF,nq,nq];omega,aH _⟩
def Ea(s:Abs)(i c:Nat):Gr 13 0 s (fail s i c):=⟨by
 show (s.out++_).length<=_
 rw[aF,ur,nq];omega,aH _⟩
def Ro(s:Abs)(e:Event):Gr 0 1 s (tell s e):=⟨aH _,by show (s.events++[e]).length<=_;rw[aF];simp⟩
def N7(s:Abs)(i:Nat)(f:Stream->Stream):Gr 0 0 s (change s i f):=⟨aH _,aH _⟩
def adh(s:Abs)(i:Nat):Gr 0 0 s (drop s i):=⟨aH _,aH _⟩
def RM(n:Nat)(s s':Abs):Prop:=Sy n s'/\Gr 26 1 s s'
def RM.of{a k:Nat}{s s':Abs}(z:Sy n s')(g:Gr a k s s')(h:a<=26:=by decide)(h':k<=1:=by decide):RM n s s':=⟨z,g.mono h h'⟩
def lr{s:Abs}(z:Sy n s)(c:Nat):RM n s (die s c):=.of (z.die c) (Yl s c)
def zm{s:Abs}(z:Sy n s)(i c:Nat):RM n s (fail s i c):=.of (z.fail i c) (Ea s i c)
def Tt{s:Abs}(z:Sy n s):RM n s s:=.of z (.refl s)
def aaY{s:Abs}{b:Block}(z:Sy n {s with block:=none})(hb:b.bytes.length<=n)(ho:b.id%2=1)(h31:b.id<2^31):RM n s (blockDone s b):=by
 have key:∀s1:Abs,s1={s with block:=none}->RM n s1 (blockDone s b)->RM n s (blockDone s b):=λs1 e ⟨a,g⟩=>⟨a,by subst e;exact⟨g.out,g.ev⟩⟩
 refine key _ rfl ?_;unfold blockDone;dsimp only
 cases e:unpack (b.bytes.length+1) true s.table b.bytes with
 |none=>exact lr z 9
 |some r=>
  obtain⟨l,t⟩:=r;obtain⟨T',h1,h2⟩:=aki b.bytes.length true s.table b.bytes l t (aH _) z.yd e;dsimp only;have z1:Sy n { {s with block:=none} with table:=t}:=⟨z.pb,T',z.ev,z.now,z.str,z.nd,z.Hg,z.hi,z.start,z.U0⟩;have ez:l.length<=n/\∀h∈l,hl h<=4096+n:=⟨by omega,λh m=>by have:=h2 h m;omega⟩
  have key2:∀s2:Abs,RM n { {s with block:=none} with table:=t} s2->RM n {s with block:=none} s2:=λs2 ⟨a,g⟩=>⟨a,g.out,g.ev⟩;refine key2 _ ?_;split
  . exact lr z1 11
  . split
    . split
      . exact zm z1 _ _
      . split
        . exact zm z1 _ _
        . exact .of (Sy.tell (e:=.trailers b.id l) (z1.change b.id (f:=λx=>{x with comes:=false}) λ_=>rfl) ez) ((N7 _ _ _).trans (Ro _ _))
    . rename_i hn;split
      . exact zm z1 _ _
      . rename_i hle;have hle:¬b.id<=s.highest:=hle;have z2:Sy n { { {s with block:=none} with table:=t} with highest:=b.id}:=
         ⟨z1.pb,T',z1.ev,z1.now,z1.str,z1.nd,λx m=>⟨(z1.Hg x m).1,by have:x.id<=s.highest:=(z1.Hg x m).2;show x.id<=b.id;omega⟩,h31,z1.start,z1.U0⟩
        have key3:∀s2:Abs,RM n { { {s with block:=none} with table:=t} with highest:=b.id} s2->RM n { {s with block:=none} with table:=t} s2:=λs2 ⟨a,g⟩=>⟨a,g.out,g.ev⟩;refine key3 _ ?_;split
        . exact zm z2 _ _
        . split
          . exact zm z2 _ _
          . rename_i h32;have h32:¬32<=s.streams.length:=h32;refine .of (k:=1) (a:=0) (Sy.tell (e:=.request b.id l b.last) ?_ ez) ⟨aH _,by show (s.events++[_]).length<=s.events.length+1;rw[aF];simp⟩
            refine⟨z2.pb,T',z2.ev,z2.now,?_,?_,?_,h31,z2.start,z2.U0⟩
            . show (s.streams++[_]).length<=32;rw[aF];simp;omega
            . show ((s.streams++[_]).map (λx:Rt=>x.id)).Nodup
              rw[dm,bG,lW];refine kZ.mpr ⟨z.nd,dZ.mpr ⟨by simp,sS⟩,λa ha c hc=>?_⟩;obtain⟨x,mx,rfl⟩:=fL.mp ha;rw[ak.mp hc];have:x.id<=s.highest:=(z.Hg x mx).2;show x.id≠b.id
              omega
            . intro x m;rcases dY.mp m with m|m
              . exact z2.Hg x m
              . rw[ak.mp m];exact⟨ho,aH _⟩
def Ng{f:Nat}{b d:Bytes}(h:unpadded f b=some d):d.length<=b.length:=by
 unfold unpadded at h;split at h
 . cases h;exact aH _
 . split at h
   . cases h
   . split at h
     . cases h
     . cases h;rw[aY,bj];omega
def ahC{s:Abs}(z:Sy n s){f:Nat}{b:Bytes}(hb:b.length<=n):RM n s (onData s f i b):=by
 unfold onData;split
 . exact lr z 1
 . split
   . exact lr z 1
   . rename_i d hd;have hdl:=Ng hd;split
     . exact lr z 1
     . dsimp only;have h1:∀s1:Abs,s1=(if b.isEmpty=true then s else send s 8 0 0 (be 4 b.length))->Sy n s1/\Gr 13 0 s s1:=λs1 e=>by
        subst e;split
        . exact⟨z,(Gr.refl s).mono (by decide) (by decide)⟩
        . exact⟨z.send ..,aaL ..⟩
       generalize e1:(if b.isEmpty=true then s else send s 8 0 0 (be 4 b.length))=s1
       obtain⟨z1,g1⟩:=h1 s1 e1.symm;split
       . exact .of (z1.fail _ _) (g1.trans (Ea _ _ _))
       . split
         . exact .of (z1.fail _ _) (g1.trans (Ea _ _ _))
         . have h2:∀s2:Abs,s2=(if b.isEmpty=true\/decide (f%2=1)=true then s1 else send s1 8 0 i (be 4 b.length))->Sy n s2/\Gr 13 0 s1 s2:=λs2 e=>by
            subst e;split
            . exact⟨z1,(Gr.refl s1).mono (by decide) (by decide)⟩
            . exact⟨z1.send ..,aaL ..⟩
           generalize e2:(if b.isEmpty=true\/decide (f%2=1)=true then s1 else send s1 8 0 i (be 4 b.length))=s2
           obtain⟨z2,g2⟩:=h2 s2 e2.symm;exact .of (Sy.tell (e:=.data i d (decide (f%2=1))) (z2.change i (f:=λy=>{y with comes:=!decide (f%2=1)}) λ_=>rfl) (show d.length<=n by omega)) ((g1.trans g2).trans ((N7 _ _ _).trans (Ro _ _)))
def aco{s:Abs}(z:Sy n {s with block:=none}){f:Nat}{b:Bytes}(hp:s.part=[])(hb:b.length<=n)(h31:i<2^31)(hbl:s.block=none):RM n s (onHeaders s f i b):=by
 have z0:Sy n s:=by
  have e:({s with block:=none}:Abs)=s:=by cases s;cases hbl;rfl
  rw[e]at z;exact z
 unfold onHeaders;split
 . exact lr z0 1
 . rename_i ho;split
   . exact lr z0 1
   . rename_i d hd;have hdl:=Ng hd;dsimp only;split
     . exact lr z0 6
     . have hk:(if decide (f / 32%2=1)=true then d.drop 5 else d).length<=n:=by
        split
        . rw[bu];omega
        . omega
       split
       . exact aaY z hk (show i%2=1 by omega) h31
       . refine .of (a:=0) (k:=0) ⟨?_,z0.yd,z0.ev,z0.now,z0.str,z0.nd,z0.Hg,z0.hi,z0.start,λk e=>by cases e;exact⟨show i%2=1 by omega,h31⟩⟩ ⟨aH _,aH _⟩
         show s.part.length+(if decide (f / 32%2=1)=true then d.drop 5 else d).length<=n
         rw[hp];simp only[bJ];omega
theorem xR{n:Nat}:∀(f:Nat){s:Abs}(b:Bytes),Sy n s->Sy n (settings f s b)/\Gr 17 0 s (settings f s b)/\((settings f s b).dead=false->(settings f s b).out=s.out)
 |0,s,_,z=>⟨z,(Gr.refl s).mono (by decide) (by decide),λ_=>rfl⟩
 |f+1,s,b,z=>by
  unfold settings;have dd:∀c,Sy n (Rc28.die s c)/\Gr 17 0 s (Rc28.die s c)/\((Rc28.die s c).dead=false->(Rc28.die s c).out=s.out):=λc=>⟨z.die c,Yl s c,λh=>by cases h⟩;split
  . exact⟨z,(Gr.refl s).mono (by decide) (by decide),λ_=>rfl⟩
  . dsimp only;split
    . split
      . exact dd 1
      . exact xR f _ z
    . split
      . split
        . exact dd 3
        . split
          . exact dd 3
          . have z':Sy n {s with first:=(num ((b.drop 2).take 4):Int),streams:=s.streams.map λx=>{x with window:=x.window+((num ((b.drop 2).take 4):Int)-s.first)}}:=by
             refine⟨z.pb,z.yd,z.ev,z.now,?_,?_,?_,z.hi,z.start,z.U0⟩
             . show (s.streams.map _).length<=32;rw[aC];exact z.str
             . show ((s.streams.map _).map (λx:Rt=>x.id)).Nodup
               rw[gH];exact z.nd
             . intro x m;obtain⟨y,my,rfl⟩:=fL.mp m;exact z.Hg y my
            obtain⟨a1,a2,a3⟩:=xR f (b.drop 6) z';exact⟨a1,⟨a2.out,a2.ev⟩,λh=>a3 h⟩
      . split
        . split
          . exact dd 1
          . exact xR f _ z
        . exact xR f _ z
def ajs{s:Abs}(z:Sy n s){t f:Nat}{b:Bytes}(hp:s.part=[])(hb:b.length+bl s<=n)(h31:i<2^31):RM n s (got s t f i b):=by
 unfold got;by_cases h0:s.settled=false/\(t≠4\/f%2=1)
 . rw[if_pos h0];exact lr z 1
 . rw[if_neg h0];have key:∀s2:Abs,RM n {s with settled:=true} s2->RM n s s2:=λs2 ⟨a,g⟩=>⟨a,g.out,g.ev⟩;refine key _ ?_;have z:Sy n {s with settled:=true}:=⟨z.pb,z.yd,z.ev,z.now,z.str,z.nd,z.Hg,z.hi,z.start,z.U0⟩;have hodd:=z.U0;have hbk:∀k,s.block=some k->bl s=k.bytes.length:=λk e=>by unfold bl;rw[e]
   clear key;generalize es:({s with settled:=true}:Abs)=s' at z ⊢;have eb:s'.block=s.block:=by subst es;rfl
   have ep:s'.part=[]:=by subst es;exact hp
   dsimp only;split
   . rename_i k ek;rw[eb]at ek;have hk:=hbk k ek;have z0:Sy n {s' with block:=none}:=⟨by show s'.part.length+0<=n;rw[ep];simp,z.yd,z.ev,z.now,z.str,z.nd,z.Hg,z.hi,z.start,λk e=>by cases e⟩
     split
     . exact lr z 1
     . split
       . exact lr z 11
       . split
         . exact aaY z0 (by show (k.bytes++b).length<=n;rw[aF];omega) (hodd k ek).1 (hodd k ek).2
         . refine .of (a:=0) (k:=0) ⟨?_,z.yd,z.ev,z.now,z.str,z.nd,z.Hg,z.hi,z.start,λk' e=>by cases e;exact hodd k ek⟩ ⟨aH _,aH _⟩
           show s'.part.length+(k.bytes++b).length<=n
           rw[ep,aF];simp only[bJ];omega
   . rename_i ek;have hb':b.length<=n:=by omega
     have z0:Sy n {s' with block:=none}:=by
      have e:({s' with block:=none}:Abs)=s':=by cases s';cases ek;rfl
      rw[e];exact z
     by_cases c0:t=0
     . rw[if_pos c0];exact ahC z hb'
     rw[if_neg c0];by_cases c1:t=1
     . rw[if_pos c1];exact aco z0 ep hb' h31 ek
     rw[if_neg c1];by_cases c2:t=2
     . rw[if_pos c2];unfold onPriority;split
       . exact lr z 1
       . split
         . exact zm z _ _
         . split
           . exact zm z _ _
           . exact Tt z
     rw[if_neg c2];by_cases c3:t=3
     . rw[if_pos c3];unfold onReset;split
       . exact lr z 1
       . split
         . exact lr z 6
         . split
           . exact lr z 1
           . split
             . exact Tt z
             . have hl4:b.length=4:=by omega
               exact .of (Sy.tell (e:=.reset i (num b)) (z.drop i) (by have:=aci 4 b hl4;show num b<2^32;omega)) ((adh _ _).trans (Ro _ _))
     rw[if_neg c3];by_cases c4:t=4
     . rw[if_pos c4];unfold onSettings;split
       . exact lr z 1
       . split
         . split
           . exact Tt z
           . exact lr z 6
         . split
           . exact lr z 6
           . dsimp only;obtain⟨a1,a2,a3⟩:=xR (b.length+1) b z;split
             . exact .of a1 a2
             . exact .of (a1.send ..) (a2.trans (Ym ..))
     rw[if_neg c4];by_cases c5:t=5
     . rw[if_pos c5];exact lr z 1
     rw[if_neg c5];by_cases c6:t=6
     . rw[if_pos c6];split
       . exact lr z 1
       . split
         . exact lr z 6
         . split
           . exact Tt z
           . exact⟨z.send ..,(Ym s' 6 1 0 b).mono (by omega) (by decide)⟩
     rw[if_neg c6];by_cases c7:t=7
     . rw[if_pos c7];split
       . exact lr z 1
       . split
         . exact lr z 6
         . exact .of (Sy.tell (e:=.away (num ((b.drop 4).take 4))) z (by
            have:=aci 4 ((b.drop 4).take 4) (by rw[aY,bu];omega)
            show num ((b.drop 4).take 4)<2^32;omega)) (Ro _ _)
     rw[if_neg c7];by_cases c8:t=8
     . rw[if_pos c8];unfold onWindow;dsimp only;split
       . exact lr z 6
       . split
         . split
           . exact lr z 1
           . split
             . exact lr z 3
             . exact .of (a:=0) (k:=0) ⟨z.pb,z.yd,z.ev,z.now,z.str,z.nd,z.Hg,z.hi,z.start,z.U0⟩ ⟨aH _,aH _⟩
         . split
           . exact lr z 1
           . split
             . exact Tt z
             . split
               . exact zm z _ _
               . split
                 . exact zm z _ _
                 . exact .of (z.change i (f:=λy=>{y with window:=y.window+((num b%2^31:Nat):Int)}) λ_=>rfl) (N7 _ _ _)
     rw[if_neg c8];by_cases c9:t=9
     . rw[if_pos c9];exact lr z 1
     rw[if_neg c9];exact Tt z
def aaX{s:Abs}(z:Sz n s)(c:UInt8):RM (n+1) s (byteIn s c):=by
 have y:=z.sy.mono (mY n);have done:∀s',RM (n+1) s s'->RM (n+1) s s':=λs' h=>h;unfold byteIn;split
 . exact done _ (Tt y)
 . split
   . split
     . refine done _ (.of (a:=0) (k:=0) ⟨y.pb,y.yd,y.ev,y.now,y.str,y.nd,y.Hg,y.hi,?_,y.U0⟩ ⟨aH _,aH _⟩);show s.start+1<=24
       omega
     . exact done _ (lr y 1)
   . dsimp only;have hpl:(s.part++[c]).length=s.part.length+1:=by rw[aF];rfl
     have hpb:=z.pb;have part:RM (n+1) s {s with part:=s.part++[c]}:=by
      refine done _ (.of (a:=0) (k:=0) ⟨?_,y.yd,y.ev,y.now,y.str,y.nd,y.Hg,y.hi,y.start,y.U0⟩ ⟨aH _,aH _⟩);show (s.part++[c]).length+bl s<=n+1
      omega
     have y0:Sy (n+1) {s with part:=[]}:=⟨by show 0+bl s<=n+1;omega,y.yd,y.ev,y.now,y.str,y.nd,y.Hg,y.hi,y.start,y.U0⟩
     have done0:∀s',RM (n+1) {s with part:=[]} s'->RM (n+1) s s':=λs' ⟨a,g⟩=>⟨a,g.out,g.ev⟩;split
     . exact part
     . split
       . exact done0 _ (lr y0 6)
       . split
         . exact part
         . refine done0 _ (ajs y0 rfl ?_ (Nat.mod_lt _ (by decide)));show ((s.part++[c]).drop 9).length+bl s<=n+1
           rw[bu];omega
def Ru{s:Abs}(z:Sz n s)(c:UInt8):Sz (n+1) (byteIn s c):=
 let⟨a,g⟩:=aaX z c
 a.sz (by have:=g.out;have:=z.out;omega) (by have:=g.ev;have:=z.evs;omega)
def Sz.mono{n m:Nat}{s:Abs}(z:Sz n s)(h:n<=m):Sz m s:=(z.sy.mono h).sz (by have:=z.out;omega) (by have:=z.evs;omega)
theorem aa2:∀(b:Bytes){n:Nat}{s:Abs},Sz n s->Sz (n+b.length) (takes s b).2
 |[],n,s,z=>z
 |c::r,n,s,z=>by
  unfold takes;split
  . exact z.mono (by omega)
  . have:=aa2 r (Ru z c);show Sz _ (takes (byteIn s c) r).2
    rw[bj,show n+(r.length+1)=n+1+r.length by omega];exact this
def in4(n:Bytes):Bool:=([":method",":scheme",":path",":authority"].map text).contains n
def al6:text ":method"≠text ":scheme"/\text ":method"≠text ":path"/\text ":method"≠text ":authority"/\text ":scheme"≠text ":path"/\text ":scheme"≠text ":authority"/\text ":path"≠text ":authority":=by decide +kernel
def cnt(l:List Header)(n:Bytes):Nat:=(l.filter λh=>h.1==n).length
def Mi(h:Header)(l:List Header)(n:Bytes):cnt (h::l) n=(if h.1=n then 1 else 0)+cnt l n:=by
 unfold cnt;rw[lQ];by_cases e:h.1=n
 . rw[if_pos (by simpa using e),if_pos e,bj];omega
 . rw[if_neg (by simpa using e),if_neg e];omega
def is4(a b c d n:Bytes):Bool:=decide (n=a\/n=b\/n=c\/n=d)
theorem akr{a b c d:Bytes}(n1:a≠b)(n2:a≠c)(n3:a≠d)(n4:b≠c)(n5:b≠d)(n6:c≠d):∀l:List Header,l.length=cnt l a+cnt l b+cnt l c+cnt l d+(l.filter λh=>!is4 a b c d h.1).length
 |[]=>rfl
 |h::r=>by
  have ih:=akr n1 n2 n3 n4 n5 n6 r;rw[bj,Mi,Mi,Mi,Mi,lQ];generalize h.1=n;by_cases q:is4 a b c d n=true
  . rw[q];simp only[Bool.not_true,Bool.false_eq_true,if_false];rcases bL q with rfl|rfl|rfl|rfl
    . rw[if_pos rfl,if_neg n1,if_neg n2,if_neg n3];omega
    . rw[if_neg n1.symm,if_pos rfl,if_neg n4,if_neg n5];omega
    . rw[if_neg n2.symm,if_neg n4.symm,if_pos rfl,if_neg n6];omega
    . rw[if_neg n3.symm,if_neg n5.symm,if_neg n6.symm,if_pos rfl];omega
  . have q':is4 a b c d n=false:=by cases z:is4 a b c d n with|false=>rfl|true=>exact absurd z q
    have m:=jw q';rw[q'];simp only[Bool.not_false,rB,bj];rw[if_neg λz=>m (.inl z),if_neg λz=>m (.inr (.inl z)),if_neg λz=>m (.inr (.inr (.inl z))),if_neg λz=>m (.inr (.inr (.inr z)))];omega
def ajc(n:Bytes):in4 n=is4 (text ":method") (text ":scheme") (text ":path") (text ":authority") n:=by
 rw[bR];unfold in4 is4;simp only[bG,lW];generalize text ":method"=a;generalize text ":scheme"=b;generalize text ":path"=c;generalize text ":authority"=d;simp[List.contains_cons]
def aiV(l:List Header):l.length=cnt l (text ":method")+cnt l (text ":scheme")+cnt l (text ":path")+cnt l (text ":authority")+(l.filter λh=>!in4 h.1).length:=by
 have e:(λh:Header=>!in4 h.1)=λh=>!is4 (text ":method") (text ":scheme") (text ":path") (text ":authority") h.1:=by funext h;rw[ajc]
 rw[e];obtain⟨n1,n2,n3,n4,n5,n6⟩:=al6;exact akr n1 n2 n3 n4 n5 n6 l
def Oc(p:List Header):Bool:=
 decide (count p ":method"=1)&&(decide (count p ":scheme"=1)&&(decide (count p ":path"=1)&&(decide (count p ":authority"<=1)&&(decide (p.length=3+count p ":authority") &&
  p.all λh=>goodValue h.2&&(h.1 != text ":path"||!h.2.isEmpty)))))
def ac0{α:Type}(l:List α)(p q:α->Bool):(l.all λx=>p x&&q x)=(l.all p&&l.all q):=by
 induction l with
 |nil=>rfl
 |cons a r ih=>simp only[jK,ih];cases p a<;>cases q a<;>simp
def ad2(m sc pa au pl z:Nat)(v u r:Bool)(h4:pl=m+sc+pa+au+z):
 ((v&&decide (z=0))&&(decide (m=1/\sc=1/\pa=1/\au<=1)&&(u&&r)))=((decide (m=1)&&(decide (sc=1)&&(decide (pa=1)&&(decide (au<=1)&&(decide (pl=3+au)&&(v&&u))))))&&r):=by
 by_cases a1:m=1<;>by_cases a2:sc=1<;>by_cases a3:pa=1<;>by_cases a4:au<=1<;>simp[a1,a2,a3,a4];by_cases hz:z=0
 . have:pl=3+au:=by omega
   cases v<;>cases u<;>cases r<;>simp[hz,this]
 . have:¬pl=3+au:=by omega
   cases v<;>cases u<;>cases r<;>simp[hz,this]
def Yt(l:List Header):goodRequest l=(Oc (l.takeWhile isPseudo)&&(l.drop (l.takeWhile isPseudo).length).all goodPlain):=by
 unfold goodRequest;dsimp only;generalize l.takeWhile isPseudo=p;have h4:=aiV p;have e1:(p.all λh=>goodValue h.2&&([":method",":scheme",":path",":authority"].map text).contains h.1)=((p.all λh=>goodValue h.2)&&p.all λh=>in4 h.1):=ac0 _ _ _;rw[e1];unfold Oc;rw[ac0];have e2:(p.all λh=>in4 h.1)=decide ((p.filter λh=>!in4 h.1).length=0):=by
  rw[bR];simp only[iT,bK,gq,List.filter_eq_nil_iff];constructor
  . intro h a ma;simp[h a ma]
  . intro h a ma;have:=h a ma;simpa using this
 rw[e2];exact ad2 _ _ _ _ _ _ _ _ _ h4
open PyFlat in
open PyFlat in
def agl{x s:List Int}(h:row l=some (x,s)):∃(n:Nat)(r:List Int),l=(n:Int)::r/\n<=r.length/\x=r.take n/\s=r.drop n:=by
 cases l with
 |nil=>simp[row]at h
 |cons n r=>
  by_cases c:0<=n/\n.toNat<=r.length
  . have e:row (n::r)=some (r.take n.toNat,r.drop n.toNat):=if_pos c;rw[e]at h
    cases h;exact⟨n.toNat,r,by rw[Int.toNat_of_nonneg c.1],c.2,rfl,rfl⟩
  . have e:row (n::r)=none:=if_neg c;rw[e]at h
    cases h
end My
namespace My
open Rc28 PyFlat
inductive Cl:List Int->List (List Int)->List Int->Prop
 |c0 (r:List Int):Cl (0::r) [[0]] r
 |c1 (n:Nat) (r:List Int):n<=r.length->Cl (1::(n:Int)::r) [[1],r.take n] (r.drop n)
 |c2 (x:Int) (r:List Int):Cl (2::x::r) [[2,x]] r
 |c3 (r:List Int):Cl (3::r) [[3]] r
 |c4 (x y:Int) (r:List Int):Cl (4::x::y::r) [[4,x,y]] r
 |c5 (x:Int) (r:List Int):Cl (5::x::r) [[5,x]] r
 |c6 (x y:Int) (n:Nat) (r:List Int):n<=r.length->Cl (6::x::y::(n:Int)::r) [[6,x,y],r.take n] (r.drop n)
 |c7 (x y:Int) (n:Nat) (r:List Int):n<=r.length->Cl (7::x::y::(n:Int)::r) [[7,x,y],r.take n] (r.drop n)
 |c8 (x y:Int) (r:List Int):Cl (8::x::y::r) [[8,x,y]] r
 |c9 (x:Int) (r:List Int):Cl (9::x::r) [[9,x]] r
theorem xG{shape:Int->Option (Nat×Nat)}{p:Int}{k:Nat}(hs:shape p=some (n,k)){r t:List Int}(h:call shape (p::r)=some (c,t)):
 ∃xs,n<=r.length/\rows k (r.drop n)=some (xs,t)/\c=(p::r.take n)::xs:=by
 unfold call at h;dsimp only at h;rw[hs]at h;dsimp only at h;split at h
 . cases h
 . rename_i hn
   cases e:rows k (r.drop n) with
   |none=>rw[e]at h;cases h
   |some y=>
    obtain⟨xs,t'⟩:=y;rw[e]at h
    cases h;exact⟨xs,by omega,rfl,rfl⟩
def Ua{r:List Int}{xs:List (List Int)}{t:List Int}(h:rows 0 r=some (xs,t)):xs=[]/\t=r:=by
 unfold rows at h;cases h;exact⟨rfl,rfl⟩
def agm{r:List Int}{xs:List (List Int)}{t:List Int}(h:rows 1 r=some (xs,t)):∃(n:Nat)(r':List Int),r=(n:Int)::r'/\n<=r'.length/\xs=[r'.take n]/\t=r'.drop n:=by
 unfold rows at h
 cases e:row r with
 |none=>rw[e]at h;cases h
 |some y=>
  obtain⟨x,s⟩:=y;rw[e]at h;obtain⟨n,r',rfl,hn,rfl,rfl⟩:=agl e;have h':some ([r'.take n],r'.drop n)=some (xs,t):=h
  cases h';exact⟨n,r',rfl,hn,rfl,rfl⟩
def acD{p:Int}(h0:p≠0)(h1:p≠1)(h2:p≠2)(h3:p≠3)(h4:p≠4)(h5:p≠5)(h6:p≠6)(h7:p≠7)(h8:p≠8)(h9:p≠9):PyRc28.shape p=none:=by
 unfold PyRc28.shape;rw[if_neg h0,if_neg h1,if_neg h2,if_neg h3,if_neg h4,if_neg h5,if_neg h6,if_neg h7,if_neg h8,if_neg h9]
def aev{r:List Int}(h:1<=r.length):∃x r',r=x::r':=by cases r with|nil=>simp at h|cons x r'=>exact⟨x,r',rfl⟩
def aht{r:List Int}(h:2<=r.length):∃x y r',r=x::y::r':=by
 obtain⟨x,r',rfl⟩:=aev (by omega:1<=r.length);obtain⟨y,r'',rfl⟩:=aev (r:=r') (by rw[bj]at h;omega)
 exact⟨x,y,r'',rfl⟩
def aha{t:List Int}(h:call PyRc28.shape l=some (c,t)):Cl l c t:=by
 cases l with
 |nil=>unfold call at h;cases h
 |cons p r=>
  by_cases h0:p=0
  . subst h0;obtain⟨xs,hn,hr,rfl⟩:=xG (n:=0) (k:=0) rfl h;obtain⟨rfl,rfl⟩:=Ua hr;exact .c0 _
  by_cases h1:p=1
  . subst h1;obtain⟨xs,hn,hr,rfl⟩:=xG (n:=0) (k:=1) rfl h;obtain⟨n,r',e,hle,rfl,rfl⟩:=agm hr;have e:r=(n:Int)::r':=e;subst e;exact .c1 n r' hle
  by_cases h2:p=2
  . subst h2;obtain⟨xs,hn,hr,rfl⟩:=xG (n:=1) (k:=0) rfl h;obtain⟨x,r',rfl⟩:=aev hn;obtain⟨rfl,rfl⟩:=Ua hr;exact .c2 x _
  by_cases h3:p=3
  . subst h3;obtain⟨xs,hn,hr,rfl⟩:=xG (n:=0) (k:=0) rfl h;obtain⟨rfl,rfl⟩:=Ua hr;exact .c3 _
  by_cases h4:p=4
  . subst h4;obtain⟨xs,hn,hr,rfl⟩:=xG (n:=2) (k:=0) rfl h;obtain⟨x,y,r',rfl⟩:=aht hn;obtain⟨rfl,rfl⟩:=Ua hr;exact .c4 x y _
  by_cases h5:p=5
  . subst h5;obtain⟨xs,hn,hr,rfl⟩:=xG (n:=1) (k:=0) rfl h;obtain⟨x,r',rfl⟩:=aev hn;obtain⟨rfl,rfl⟩:=Ua hr;exact .c5 x _
  by_cases h6:p=6
  . subst h6;obtain⟨xs,hn,hr,rfl⟩:=xG (n:=2) (k:=1) rfl h;obtain⟨x,y,r',rfl⟩:=aht hn;obtain⟨n,r'',e,hle,rfl,rfl⟩:=agm hr;have e:r'=(n:Int)::r'':=e;subst e;exact .c6 x y n r'' hle
  by_cases h7:p=7
  . subst h7;obtain⟨xs,hn,hr,rfl⟩:=xG (n:=2) (k:=1) rfl h;obtain⟨x,y,r',rfl⟩:=aht hn;obtain⟨n,r'',e,hle,rfl,rfl⟩:=agm hr;have e:r'=(n:Int)::r'':=e;subst e;exact .c7 x y n r'' hle
  by_cases h8:p=8
  . subst h8;obtain⟨xs,hn,hr,rfl⟩:=xG (n:=2) (k:=0) rfl h;obtain⟨x,y,r',rfl⟩:=aht hn;obtain⟨rfl,rfl⟩:=Ua hr;exact .c8 x y _
  by_cases h9:p=9
  . subst h9;obtain⟨xs,hn,hr,rfl⟩:=xG (n:=1) (k:=0) rfl h;obtain⟨x,r',rfl⟩:=aev hn;obtain⟨rfl,rfl⟩:=Ua hr;exact .c9 x _
  unfold call at h;dsimp only at h;rw[acD h0 h1 h2 h3 h4 h5 h6 h7 h8 h9]at h
  cases h
def ajL:List (List Int)->Option Rc28.Call
 |[[0]]=>some .init
 |[[1],a]=>some (.feed (Rc28Neutral.bytesOf a) a.length)
 |[[2,a]]=>some (.take a)
 |[[3]]=>some .event
 |[[4,a,b]]=>some (.header a b)
 |[[5,a]]=>some (.data a)
 |[[6,a,d],b]=>some (.answer a (Rc28Neutral.bytesOf b) b.length d)
 |[[7,a,d],b]=>some (.send a (Rc28Neutral.bytesOf b) b.length d)
 |[[8,a,b]]=>some (.reset a b)
 |[[9,a]]=>some (.away a)
 |_=>none
def akq{t:List Int}(h:Cl l c t):∃x,Rc28Neutral.callOf (PyRc28.whole c)=some x/\ajL c=some x:=by
 cases h<;>exact⟨_,rfl,rfl⟩
def ah2{x:Rc28.Call}(h:Rc28Neutral.callOf (PyRc28.whole c)=some x)(s:Abs):
 Rc28Neutral.step s (PyRc28.whole c)=((does s x).1,(does s x).2.value::(does s x).2.numbers.map λ(b:Nat)=>(b:Int)):=by
 unfold Rc28Neutral.step;rw[h]
def due(s:Abs)(cs:List (List (List Int))):List Int:=told (played Rc28Neutral.step s (cs.map PyRc28.whole))
def ahg(s:Abs):due s []=[]:=rfl
def afs(s:Abs)(c:List (List Int))(cs:List (List (List Int))):due s (c::cs)=((Rc28Neutral.step s (PyRc28.whole c)).2.length:Int)::((Rc28Neutral.step s (PyRc28.whole c)).2++due (Rc28Neutral.step s (PyRc28.whole c)).1 cs):=by
 unfold due;rw[bG];show told (_::_)=_
 unfold told;rw[pJ];rfl
def abL{a:List Int}(h:a.all (λ(z:Int)=>Rc28Neutral.natural z 8)=true):(Rc28Neutral.bytesOf a).map (λc=>(c.toNat:Int))=a:=by
 unfold Rc28Neutral.bytesOf;rw[gH];have e:∀x∈a,((λc:UInt8=>(c.toNat:Int)) ∘ λx:Int=>UInt8.ofNat x.toNat) x=x:=λx m=>by
  have hx:=iT.mp h x m;unfold Rc28Neutral.natural at hx;simp only[bQ,bK]at hx;show ((UInt8.ofNat x.toNat).toNat:Int)=x
  have h2:=hx.2;rw[UJ _ (by omega)];omega
 rw[nZ e,List.map_id']
end My
namespace My
open PySem PySem.W PyProof.Rows L2
abbrev R:OpenSpec:=PySem.Challenge.rw_manyonline_s01_answers
def agp(K:Frag):Sp:=λvs H Q _=>∃(a:Addr)(ns:List Int),vs=[.ref a]/\L2.aiG H/\fH K H a (ns.map V.int)/\ns.length<=30000/\PyRc28.answers_asked ns=true /\
 ∀(H':Hp)(p:Addr),H' p=some (.cM ((PyRc28.answers ns).map V.int))->Q (.ref p) H'
theorem T9{h:Heap}{cl:Str->Option Addr}:∀{vs:List Value}{ns:List Int},IntsAre vs ns->ReadsAllW [] cl h vs (ns.map .int) []
 |_,_,.nil=>.nil
 |_,_,.cons n t r=>ReadsAllW.cons (as:=[]) (bs:=[]) (.int n t) (T9 r)
def agQ(said:R.wellSaid=true){k:Nat}{q:Program}{loose:List Str}{XP:(Str->Option Value)->Heap->Prop}{YP:World->Heap->Prop}{d:DefRec}{K:Params->Frag}{newId:String}{bm:List Value}(hdf:d.params.defaults=[])(hr:pB k callerA)(hY:∀(w:World)(h:Heap),YP w h->(K w.params).In h)(hown:specOf q "WrongBlock"=some (newId,bm))(F:∀(w:World)(mg:Str->Option Value)(fa:Addr)(h:Heap),(K w.params).In h->h.Ns mainGlobals mg->mg d.name=some (.ref fa)->(∃C,OwnClsQ "WrongBlock" C bm newId mg h) ->
 ∃fd:FuncData,(∀(s:Shared)(u:Value),BindsTo s fd ⟨[u],[]⟩ [("calls",u)]) /\
  ∀base:Heap,(K w.params).In base->base.Ns mainGlobals mg->(∀b o,h.get? b=some o->(∀v n,o.data≠.seq v n)->base.get? b=some o)->dR R.prog w (K w.params) mg base dW k fa fd ["calls"] (agp (K w.params))):
 WalkOS q loose XP YP R d [] (λf vs=>PySem.call f vs):=by
 intro w s₀ s₁ mg mb G Y fa o pm cd doc dV kV ho hd hcd hD hmg hg args vals as hpre hlay hrd hwl hlo;obtain⟨a,hw,hask,rfl⟩:=(OpenSpec.pre_iff said _).mp hpre;obtain⟨ns,u⟩:=a;have hb:Codec.inPair (Codec.within (.list 0 30000 (.int (-2147483648) 2147483647))) (Codec.withinAll []) (ns,u)=true:=hw;have jB:ns.length<=30000:=by
  have h1:=(ik.mp hb).1;have h2:=(ik.mp h1).1;exact(Codec.inNat_iff.mp h2).2
 have hask':PyRc28.answers_asked ns=true:=hask;have KX:=hY w _ Y;obtain⟨fd,hbd,hF⟩:=F w mg fa _ KX G.T.g hmg (let⟨C,O,_⟩:=G.T.ownAt hown;⟨C,O⟩)
 have hwl':WellAll w.params s₁.heap vals [.list (ns.map .int)]:=hwl
 cases hwl' with
 |cons w1 w2=>
  cases w2
  cases w1 with
  |list hobj hall=>
   rename_i a vs;have hints:IntsAre vs ns:=Att.QJ ns vs hall;refine enter_call (iR (aeN (out:=PyRc28.answers ns) KX G.T.g G.T.b G.T.builtins G.T.nolimit hg hobj hints (cG jB (by decide)) hr hF hbd
    (λH hO hS=>⟨a,ns,rfl,hO,hS,jB,hask',λH' p hp=>⟨p,rfl,hp⟩⟩) (λH e s' h=>h)) λr s' hq=>?_)
   obtain⟨⟨p,vs',n',rfl,hob,hi'⟩,h2,h3,h4⟩:=hq;refine⟨.inl ⟨.ref p,.list ((PyRc28.answers ns).map .int),[p],rfl,λ_=>rfl,.list hob rfl rfl (by rw[qY];exact T9 hi'),?_,λh=>absurd h (by decide)⟩,h2,h3,h4⟩
   exact(OpenSpec.post_iff said hw _ _).mpr rfl
end My
namespace My
open PySem L2
def lX(i:Nat):Stmt:=PySem.Challenge.pw_manyonline_s01_answers.main.body.getD i (.Pass ⟨0,0,0,0⟩)
structure jQ(P:Program)(w:World)(K:Fg)(mg:Str->Option Value)(base:Heap)(x:Str)(CX:CXT)(k:Nat)(ps:List Str)(sp:Sp):Prop where
 ex:∃f fd,mg x=some (.ref f)/\PySem.W.keepIn K (.ref f)=true/\yO K fd ps []/\dR P w K mg base CX k f fd ps sp
def Gc(mg:Str->Option Value)(x:Str)(v:V):Prop:=∃u,mg x=some u/\jt v u
inductive SvP(K:Fg)(f:Str)(y:V)(R:Hp->Prop)(o:Option (Option V))(H:Hp):Prop
 |mk {a C dx:Addr} {fs:List (Str×V)} (_:o=some (some (.ref a))) (_:H a=some (.ins C dx fs)) (_:RJ K C) (_:gB K C f) (_:fs.length<1000) (_:R (L2.bM H a (.ins C dx (kY f y fs))))
def sFv(K:Fg)(i:Nat)(tv:TE)(f:Str):TS:=λD σ H=>tv σ H λy H1=>SvP K f y (D.nx σ) σ[i]? H1
inductive AvP(K:Fg)(f:Str)(R:Addr->Addr->V->Prop)(o:Option (Option V))(H:Hp):Prop
 |mk {a C dx:Addr} {fs:List (Str×V)} {v:V} (_:o=some (some (.ref a))) (_:H a=some (.ins C dx fs)) (_:RJ K C) (_:gB K C f) (_:fs.lookup f=some v) (_:R a C v)
def aj6(K:Fg)(i:Nat)(tv:TE)(rd:V->V->Hp->VK->Prop)(f:Str):TS:=λD σ H=>AvP K f (λa C v=>tv σ H λy H2=>rd v y H2 (aif f a C (D.nx σ))) σ[i]? H
def abu{X:Cx}{x f:Str}{value:Expr}{tv:TE}{p:Pos}(i:Nat)(hv:PE X value tv)(hs:swapsWith value (some (.Attribute (.Name x p) f pos')) pos.line X.env=pure false)(hN:X.N[i]? = some x:=by rfl)(hs':Vis X.env.scope x:=by first|exact Or.inl rfl|exact Or.inr (Or.inl rfl)|exact Or.inr (Or.inr rfl))(hd:(x==("__debug__":Str))=false:=by decide)(hcd:(x==("__classdict__":Str))=false:=by decide):PS X (.Assign [.Attribute (.Name x p) f pos'] value pos) (sFv X.K i tv f):=by
 intro aN s σ H D I h;refine plainObj_wpAny_Assign_Attribute (nO (hv aN s σ H _ I h) λu s1 ⟨y,H1,I1,ry,q0⟩=>?_) hs;obtain @⟨a,C,dx,fs,e,ea,c,n,l,q⟩:=q0;refine nO (ajx hN hs' hd hcd aN s1 σ H1 (λx H2=>x=.ref a/\H2=H1) I1 ⟨_,e,rfl,rfl⟩) λov s2 ⟨x,H2,I2,rx,ex,eh⟩=>?_;subst ex eh;obtain rfl:ov=Value.ref a:=rx;exact Ul I2 ea c n l ry λs3 I3=>⟨σ,_,I3,q⟩
def aa8{X:Cx}{x f:Str}{value:Expr}{tv:TE}{p:Pos}{op:Operator}{rd:V->V->Hp->VK->Prop}(i:Nat)(hv:PE X value tv)(hop:aiF X op rd)(hN:X.N[i]? = some x:=by rfl)(hs:Vis X.env.scope x:=by first|exact Or.inl rfl|exact Or.inr (Or.inl rfl)|exact Or.inr (Or.inr rfl))(hd:(x==("__debug__":Str))=false:=by decide)(hcd:(x==("__classdict__":Str))=false:=by decide):PS X (.AugAssign (.Attribute (.Name x p) f tpos) op value pos) (aj6 X.K i tv rd f):=λaN s σ H D I ⟨e,h1,h2,h3,h4,q⟩=>ph (ajx hN hs hd hcd) hv hop aN s σ H D I ⟨_,e,_,_,_,_,_,rfl,h1,h2,h3,h4,q⟩
section
variable{X:Cx}{x:Str}{k:Nat}{E:XK}{t:TA}{p:Pos}{v:V}
def cR(h:Gc X.mg x v)(hg:Gl X x:=by rfl)(hd:(x==("__debug__":Str))=false:=by decide):PE X (.Name x pos) (tC v):=
 let⟨_,hm,r⟩:=h
 ahK hg hm r hd
def xU(D:jQ X.prog X.w X.K X.mg X.base x CX k ps sp)(hr:pB k X.A)(hx:uF CX X E)(ha:PA X (e::es) t)(hg:Gl X x:=by rfl)(hdb:(x==("__debug__":Str))=false:=by decide)(he:starEach (e::es) X.env=(false,eval e X.env)::starEach es X.env:=by rfl)(hpl:(backTo pos (starEach es X.env)).any (·.1)=false:=by rfl):PE X (.Call (.Name x p) (e::es) [] pos) (uc sp [] E t):=
 let⟨_,_,hm,hk,hb,F⟩:=D.ex
 ahJ F hr hg hm hk hb .nil hx ha hdb he hpl
def aU(D:jQ X.prog X.w X.K X.mg X.base x dW k ps sp)(hr:pB k X.A)(ha:PA X (e::es) t)(hg:Gl X x:=by rfl)(hdb:(x==("__debug__":Str))=false:=by decide)(he:starEach (e::es) X.env=(false,eval e X.env)::starEach es X.env:=by rfl)(hpl:(backTo pos (starEach es X.env)).any (·.1)=false:=by rfl):PE X (.Call (.Name x p) (e::es) [] pos) (uc sp [] E0 t):=
 xU D hr lU ha hg hdb he hpl
def Jb(D:jQ X.prog X.w X.K X.mg X.base x dW k ps sp)(hr:pB k X.A)(hg:Gl X x:=by rfl)(hdb:(x==("__debug__":Str))=false:=by decide):PE X (.Call (.Name x p) [] [] pos) (uc sp [] E0 oO):=
 let⟨_,_,hm,hk,hb,F⟩:=D.ex
 af3 F hr hg hm hk hb .nil lU hdb
end
def bv(b:Rb):List V:=b.map λc=>V.int (c.toNat:Int)
def cA(b:Rb):(bv b).length=b.length:=aC ..
def ag7(c:UInt8)(b:Rb):bv (c::b)=V.int (c.toNat:Int)::bv b:=rfl
def uH(a b:Rb):bv (a++b)=bv a++bv b:=dm
inductive agh(x:V)(vs:List V)(H:Hp)(Q:VK):Prop
 |mk (l:_) (xs:_) (y:_) (_:x=.ref l) (_:vs=[.int 0,y]) (_:H l=some (.cM xs)) (_:xs.length<sizeLine) (_:Q .non (bM H l (.cM (y::xs))))
def S9{X:Cx}:MtM X "list.insert" agh:=by
 intro aN s σ H x vs v us Q I rx rv h;obtain⟨l,xs,y,rfl,rfl,hH,hz,q⟩:=h
 cases rx
 cases rv with
 |cons r0 rv=>
  obtain⟨t,rfl⟩:=r0;obtain⟨u,rfl,ru⟩:=ie.one rv;obtain⟨z,its,n,r,hl,e⟩:=I.aaQ hH;refine call_meets F.slot_list_insert ⟨_,e,rfl⟩ F.entry_list_insert (F.args_list_insert_3 _ _ _) (PySem.AutoListH.list_insert_list_int_val_1 l its.toArray n 0 t u (by decide) (by rw[bH];omega)) ⟨e,?_⟩
  refine⟨.non,_,I.afR (its':=u::its) hH e ?_ (.cons ru r) (by rw[bj];omega),rfl,q⟩
  have hk:(if (0:Int)<0 then ((0:Int)+((its.toArray.size:Nat):Int)).toNat else min (0:Int).toNat its.toArray.size)=0:=by simp
  show (its.toArray.extract 0 _).push u++its.toArray.extract _=_
  rw[hk];simp
abbrev Eu:Stmt:=mJ (lX 23) 0
abbrev yz:Stmt:=mJ (lX 23) 1
abbrev wD:Stmt:=lX 24
abbrev yD:Stmt:=lX 31
abbrev wu:Stmt:=lX 32
abbrev wA:Stmt:=lX 33
abbrev pO:Stmt:=lX 34
abbrev BX:Stmt:=mJ (lX 40) 0
abbrev vH:Stmt:=lX 41
abbrev uN:Stmt:=lX 42
abbrev yG:Stmt:=lX 43
abbrev tR:Stmt:=lX 44
abbrev xf:Stmt:=lX 45
abbrev K7:Stmt:=lX 46
abbrev z8:Stmt:=lX 47
abbrev uK:Stmt:=lX 48
abbrev su:Stmt:=lX 49
abbrev sr:Stmt:=lX 50
abbrev uM:Stmt:=lX 51
abbrev tQ:Stmt:=lX 52
abbrev HY:Stmt:=lX 53
abbrev Et:Stmt:=mJ (lX 61) 0
abbrev Ae:Stmt:=lX 62
abbrev yF:Stmt:=lX 63
abbrev Fd:Stmt:=lX 64
abbrev wC:Stmt:=lX 65
abbrev vD:Stmt:=lX 66
abbrev yE:Stmt:=lX 69
abbrev Aa:Stmt:=lX 70
abbrev Ew:Stmt:=mJ (lX 73) 0
abbrev wk:Stmt:=mJ (lX 73) 1
abbrev vA:Stmt:=mJ (lX 73) 2
abbrev tO:Stmt:=mJ (lX 73) 3
abbrev uJ:Stmt:=mJ (lX 73) 4
abbrev BZ:Stmt:=mJ (lX 79) 0
abbrev Hz:Stmt:=mJ (lX 80) 0
abbrev Ex:Stmt:=lX 81
abbrev Fp:Stmt:=lX 82
abbrev HX:Stmt:=lX 83
abbrev Ce:Stmt:=lX 84
abbrev Fe:Stmt:=lX 85
abbrev O7:Stmt:=lX 86
abbrev acy:Stmt:=lX 87
abbrev wB:Stmt:=lX 88
abbrev Ia:Stmt:=lX 89
abbrev acx:Stmt:=lX 92
abbrev yH:Stmt:=lX 93
abbrev vC:Stmt:=lX 94
abbrev xg:Stmt:=lX 95
abbrev Ck:Stmt:=lX 96
abbrev yI:Stmt:=lX 97
abbrev yC:Stmt:=lX 107
abbrev Af:Stmt:=lX 108
abbrev K6:Stmt:=lX 109
abbrev Fo:Stmt:=lX 110
abbrev Ib:Stmt:=lX 111
abbrev Ig:Stmt:=lX 112
abbrev vG:Stmt:=lX 113
abbrev Ag:Stmt:=lX 114
abbrev O6:Stmt:=lX 115
abbrev vy:Stmt:=mJ (lX 118) 0
abbrev tM:Stmt:=mJ (lX 118) 1
abbrev oH:Stmt:=mJ (lX 118) 2
def zq:bz ["self"] ["self"] (aR oH):=cU
abbrev qu:Stmt:=mJ (lX 118) 3
def uU:bz ["self","byte"] ["self"] (aR qu):=cU
abbrev oW:Stmt:=mJ (lX 118) 4
def gY:bz ["self","ones","number","factor","step","byte"] ["self","ones"] (aR oW):=cU
abbrev qw:Stmt:=mJ (lX 118) 5
def mO:bz ["self","length","end","text"] ["self"] (aR qw):=cU
abbrev Ud:Stmt:=lX 119
def Jd:bz ["block","table","reader","headers","first"] ["block","table"] (aR Ud):=cU
abbrev yM:Stmt:=lX 120
def Dl:bz ["reader","table","first","header"] ["reader","table","first"] (aR yM):=cU
abbrev Ac:Stmt:=lX 121
def Gd:bz ["table","number","header"] ["table","number"] (aR Ac):=cU
abbrev xj:Stmt:=lX 122
def sO:bz ["reader","table","ones","number","name"] ["reader","table","ones"] (aR xj):=cU
abbrev Ah:Stmt:=lX 123
def Ge:bz ["reader","table","weight"] ["reader","table"] (aR Ah):=cU
abbrev Es:Stmt:=mJ (lX 127) 0
abbrev vB:Stmt:=lX 128
abbrev z7:Stmt:=lX 129
abbrev HW:Stmt:=lX 130
abbrev uL:Stmt:=lX 131
abbrev z9:Stmt:=lX 132
abbrev yL:Stmt:=lX 141
abbrev Ai:Stmt:=lX 142
abbrev sE:Stmt:=lX 143
abbrev Cg:Stmt:=lX 144
abbrev HR:Stmt:=lX 146
abbrev wZ:Stmt:=lX 147
abbrev Ab:Stmt:=lX 148
abbrev yJ:Stmt:=lX 149
abbrev Fl:Stmt:=lX 150
abbrev yK:Stmt:=lX 151
abbrev Cj:Stmt:=lX 152
abbrev Ie:Stmt:=lX 153
abbrev HB:Stmt:=lX 154
abbrev Cm:Stmt:=lX 155
abbrev Fi:Stmt:=lX 157
abbrev Ff:Stmt:=lX 163
abbrev HD:Stmt:=lX 164
abbrev wy:Stmt:=lX 165
abbrev wz:Stmt:=lX 166
abbrev K8:Stmt:=lX 171
abbrev Fq:Stmt:=lX 172
abbrev Fj:Stmt:=lX 173
abbrev Ci:Stmt:=lX 174
abbrev HS:Stmt:=lX 175
abbrev Hx:Stmt:=mJ (lX 177) 0
abbrev vz:Stmt:=mJ (lX 177) 1
abbrev yx:Stmt:=mJ (lX 177) 2
abbrev Ey:Stmt:=lX 178
abbrev HJ:Stmt:=lX 179
abbrev HQ:Stmt:=lX 180
abbrev EY:Stmt:=lX 181
abbrev Cd:Stmt:=lX 182
abbrev HH:Stmt:=lX 183
abbrev Ca:Stmt:=lX 184
abbrev HN:Stmt:=lX 185
abbrev Fb:Stmt:=lX 186
abbrev HF:Stmt:=lX 187
abbrev Dg:Stmt:=lX 189
inductive Us(K:Fg)(vs:List V)(H:Hp)(Q:VK)(_:XK):Prop
 |mk (a:Addr) (b:Rb) (_:vs=[.ref a]) (_:fH K H a (bv b)) (_:b.length<=100000) (_:Q (.int (Rc28.num b:Nat)) H)
def afc{y:V}(h:(bv b)[i]? = some y):∃c,b[i]? = some c/\y=.int (c.toNat:Int):=by
 unfold bv at h;rw[bA]at h
 cases e:b[i]? with
 |none=>rw[e]at h;cases h
 |some c=>rw[e]at h;exact⟨c,rfl,(cz h).symm⟩
def pq{α:Type}{b:List α}{c:α}(h:b[i]? = some c):b.take (i+1)=b.take i++[c]:=by
 rw[List.take_add_one,h];rfl
def KN(F:j5 K "number_of_bytes" "number_of_bytes" wA f fd):dR P w K mg base dW 1 f fd ["row"] (Us K):=by
 refine F.mZ (N:=["row","number","byte"]) (λ_ _ _ _ H _ _ _ _ h nd0=>?_)
 . obtain⟨a,b,rfl,hS,hb,q⟩:=h;refine⟨_,ao (cB (i:=1) nd0 rfl (Or.inl rfl) bx)
    (ao (wj b8 rfl (zp (pv 0)) (jY (i:=2) nd0 rfl (Or.inl rfl)) (aG (cB (i:=1) nd0 rfl (Or.inl rfl) (iW oG (iW acq (pv 1) bx) (pv 2)))))
    (aG (aZ (pv 1)))),?_⟩
   refine⟨_,rfl,a,rfl,⟨_,hS⟩,Hd (K:=K) (a:=a) (xs:=bv b) (λi σ H2=>∃v:Option V,σ=[some (.ref a),some (.int (Rc28.num (b.take i):Nat)),v]/\H2=H)
    ⟨none,rfl,rfl⟩ (λi σ H2 _ ⟨_,_,e⟩=>by rw[e];exact hS) ?_ ?_⟩
   . rintro i y σ H2 hi ⟨v,rfl,rfl⟩;obtain⟨c,hc,rfl⟩:=afc hi;refine⟨_,rfl,_,_,rfl,rfl,.inr ⟨by decide,by decide⟩,_,rfl,_,_,rfl,rfl,?_⟩;have e:((Rc28.num (b.take i):Nat):Int)*256+(c.toNat:Int)=((Rc28.num (b.take (i+1)):Nat):Int):=by
      rw[pq hc,aaW];omega
     exact⟨some (.int (c.toNat:Int)),by rw[<-e];rfl,rfl⟩
   . rintro σ H2 ⟨v,rfl,rfl⟩;refine⟨_,rfl,?_⟩;rw[cA,gh];exact q
inductive aeM(vs:List V)(H:Hp)(Q:VK)(_:XK):Prop
 |mk (x n:Nat) (_:vs=[.int (x:Int),.int (n:Int)]) (_:n<=8) (_:∀(p:Addr),H p=none->∀H',H' p=some (.cM (bv (Rc28.be n x)))->cZ H H'->Q (.ref p) H')
def KC(F:j5 K "bytes_of_number" "bytes_of_number" wu f fd)(hrg:mg "range"=none):dR P w K mg base dW 1 f fd ["number","count"] aeM:=by
 refine F.mZ (N:=["number","count","row","step"]) (λ_ _ _ _ H _ _ _ _ h nd0=>?_)
 . obtain⟨x,n,rfl,hn,q⟩:=h;refine⟨_,ao (cB (i:=2) nd0 rfl (Or.inl rfl) (jT aK))
    (ao (wj b8 rfl (WW rfl hrg (aa (pv 1) aK)) (jY (i:=3) nd0 rfl (Or.inl rfl))
      (ao (dz (uR bB PySem.F.slot_list_insert PySem.F.type_list_insert S9 (pv 2) (aa bx (aa (iW TQ (pv 0) bx) aK))))
      (aG (cB (i:=0) nd0 rfl (Or.inl rfl) (iW adu (pv 0) bx)))))
    (aG (aZ (pv 2)))),?_⟩
   refine⟨by show 0<=sizeLine;decide,λp hp=>?_⟩
   refine⟨_,rfl,_,rfl,by omega,by omega,Wy (n:=(n:Int).toNat) (λi σ H2=>∃v:Option V,σ=[some (.int ((x / 256^i:Nat):Int)),some (.int (n:Int)),some (.ref p),v]/\H2 p=some (.cM (bv (Rc28.be i x)))/\cZ H H2)
    ⟨none,by simp;rfl,aB,λb o e=>by rw[aM (aD e hp)];exact e⟩ ?_ ?_⟩
   . rintro i σ H2 hi ⟨v,rfl,h2,sm⟩;refine⟨_,rfl,.inl ⟨rfl,_,fH.of h2⟩,_,rfl,_,_,rfl,rfl,(by show (0:Int)<256;decide),p,_,_,rfl,rfl,h2,?_,?_⟩
     . rw[cA,nq];exact W2 (by omega)
     . refine⟨_,rfl,_,_,rfl,rfl,⟨by decide,by decide⟩,some (.int (0+(i:Int))),?_,?_,λb o e=>?_⟩
       . have e:(((x / 256^i:Nat):Int) / 256)=((x / 256^(i+1):Nat):Int):=by
          rw[Nat.pow_succ,<-Nat.div_div_eq_div_mul];omega
         rw[<-e];rfl
       . rw[aB,ag5,ag7];have e:(((x / 256^i:Nat):Int)%256)=(((UInt8.ofNat (x / 256^i%256)).toNat:Nat):Int):=by
          rw[UJ _ (Nat.mod_lt _ (by decide))];omega
         rw[<-e]
       . have z:b≠p:=aD e hp;rw[aM z];exact sm b o e
   . rintro σ H2 ⟨v,rfl,h2,sm⟩;refine⟨_,rfl,?_⟩;exact q p hp H2 h2 sm
def Bm(kind flags stream:Int)(body:Addr):List (Str×V):=[("kind",V.int kind),("flags",V.int flags),("stream",V.int stream),("body",V.ref body)]
def uv{body:Addr}:(Bm kind flags stream body).lookup ("kind":Str)=some (V.int kind):=by kernel_rfl
def Vs{body:Addr}:(Bm kind flags stream body).lookup ("flags":Str)=some (V.int flags):=by kernel_rfl
def cT{body:Addr}:(Bm kind flags stream body).lookup ("stream":Str)=some (V.int stream):=by kernel_rfl
def fD{body:Addr}:(Bm kind flags stream body).lookup ("body":Str)=some (V.ref body):=by kernel_rfl
def kh{body:Addr}:(Bm kind flags stream body).lookup ("has_set":Str)=none:=by kernel_rfl
def ahn{body:Addr}:kY "body" (V.ref body) (kY "stream" (V.int stream) (kY "flags" (V.int flags) (kY "kind" (V.int kind) ([]))))=Bm kind flags stream body:=by kernel_rfl
def rF(name value:Addr):List (Str×V):=[("name",V.ref name),("value",V.ref value)]
def ir:(rF name value).lookup ("name":Str)=some (V.ref name):=by kernel_rfl
def j7:(rF name value).lookup ("value":Str)=some (V.ref value):=by kernel_rfl
def aft:(rF name value).map (·.1)=(["name","value"]:List Str):=rfl
def afI:kY "value" (V.ref value) (kY "name" (V.ref name) ([]))=rF name value:=by kernel_rfl
def adf(kind stream:Int)(zg:Bool)(code:Int)(headers body:Addr):List (Str×V):=[("kind",V.int kind),("stream",V.int stream),("no_more",V.bl zg),("code",V.int code),("headers",V.ref headers),("body",V.ref body)]
def aic{zg:Bool}{code:Int}{headers body:Addr}:(adf kind stream zg code headers body).length<1000:=by show 6<1000;decide
def mH(fixed_ones newest_first:Addr)(weight_held weight_allowed:Int):List (Str×V):=[("fixed_ones",V.ref fixed_ones),("newest_first",V.ref newest_first),("weight_held",V.int weight_held),("weight_allowed",V.int weight_allowed)]
def qL:(mH fixed_ones newest_first weight_held weight_allowed).lookup ("fixed_ones":Str)=some (V.ref fixed_ones):=by kernel_rfl
def pF:(mH fixed_ones newest_first weight_held weight_allowed).lookup ("newest_first":Str)=some (V.ref newest_first):=by kernel_rfl
def uI:(mH fixed_ones newest_first weight_held weight_allowed).lookup ("weight_held":Str)=some (V.int weight_held):=by kernel_rfl
def yV:kY "weight_held" (V.int x) (mH fixed_ones newest_first weight_held weight_allowed)=mH fixed_ones newest_first x weight_allowed:=by kernel_rfl
def Ec:(mH fixed_ones newest_first weight_held weight_allowed).lookup ("weight_allowed":Str)=some (V.int weight_allowed):=by kernel_rfl
def En:kY "weight_allowed" (V.int x) (mH fixed_ones newest_first weight_held weight_allowed)=mH fixed_ones newest_first weight_held x:=by kernel_rfl
def Mt:(mH fixed_ones newest_first weight_held weight_allowed).lookup ("header_at":Str)=none:=by kernel_rfl
def Kw:(mH fixed_ones newest_first weight_held weight_allowed).lookup ("put_header":Str)=none:=by kernel_rfl
def Hj:(mH fixed_ones newest_first weight_held weight_allowed).lookup ("allow_weight":Str)=none:=by kernel_rfl
def yP:(mH fixed_ones newest_first weight_held weight_allowed).lookup ("drop_oldest":Str)=none:=by kernel_rfl
def ZP:(mH fixed_ones newest_first weight_held weight_allowed).length<1000:=by show 4<1000;decide
def adb:(mH fixed_ones newest_first weight_held weight_allowed).map (·.1)=(["fixed_ones","newest_first","weight_held","weight_allowed"]:List Str):=rfl
def aaI(window:Int)(jH jn:Bool):List (Str×V):=[("window",V.int window),("more_may_come",V.bl jH),("answer_has_begun",V.bl jn)]
def agR{window:Int}{jH jn:Bool}:(aaI window jH jn).length<1000:=by show 3<1000;decide
def afy(gR:Int)(di:Addr)(dX:Bool)(gC:V)(failed:Bool)(highest:Int)(streams:Addr)(window fC:Int)(table:Addr)(gn:Bool)(dU gD:Addr)(bU:Int)(eE:Addr):List (Str×V):=[("first_bytes_come",V.int gR),("frame_bytes",V.ref di),("settings_have_come",V.bl dX),("open_block",gC),("failed",V.bl failed),("highest",V.int highest),("streams",V.ref streams),("window",V.int window),("first_window",V.int fC),("table",V.ref table),("block_was_sent",V.bl gn),("unsent",V.ref dU),("untold",V.ref gD),("untold_weight",V.int bU),("told_now",V.ref eE)]
def aj2{gR:Int}{di:Addr}{dX:Bool}{gC:V}{failed:Bool}{highest:Int}{streams:Addr}{window fC:Int}{table:Addr}{gn:Bool}{dU gD:Addr}{bU:Int}{eE:Addr}:(afy gR di dX gC failed highest streams window fC table gn dU gD bU eE).length<1000:=by show 15<1000;decide
def iH(block:Addr)(place:Int):List (Str×V):=[("block",V.ref block),("place",V.int place)]
def p8:(iH block place).lookup ("block":Str)=some (V.ref block):=by kernel_rfl
def nG:(iH block place).lookup ("place":Str)=some (V.int place):=by kernel_rfl
def yU:kY "place" (V.int x) (iH block place)=iH block x:=by kernel_rfl
def xQ:(iH block place).lookup ("at_end":Str)=none:=by kernel_rfl
def oE:(iH block place).lookup ("look_at_byte":Str)=none:=by kernel_rfl
def vO:(iH block place).lookup ("read_byte":Str)=none:=by kernel_rfl
def mj:(iH block place).lookup ("read_number":Str)=none:=by kernel_rfl
def vP:(iH block place).lookup ("read_text":Str)=none:=by kernel_rfl
def J2:(iH block place).length<1000:=by show 2<1000;decide
def Vn:(iH block place).map (·.1)=(["block","place"]:List Str):=rfl
def Vr:kY "place" (V.int place) (kY "block" (V.ref block) ([]))=iH block place:=by kernel_rfl
def ahi(stream:Int)(lC last:Bool)(qQ:Addr):List (Str×V):=[("stream",V.int stream),("depends_on_itself",V.bl lC),("last",V.bl last),("packed",V.ref qQ)]
def afx(calls:Addr)(place:Int)(line:Addr):List (Str×V):=[("calls",V.ref calls),("place",V.int place),("line",V.ref line)]
def aj1{calls line:Addr}:(afx calls place line).length<1000:=by show 3<1000;decide
def ajd{C' dx':Addr}{fs fs':List (Str×V)}(h:fs.map (·.1)≠fs'.map (·.1)):HO.ins C dx fs≠HO.ins C' dx' fs':=λz=>by
 injection z with _ _ z;exact h (by rw[z])
def yZ{C' dx' a_fixed_ones a_newest_first:Addr}{a_weight_held a_weight_allowed:Int}{b_block:Addr}{b_place:Int}:HO.ins C dx (mH a_fixed_ones a_newest_first a_weight_held a_weight_allowed)≠HO.ins C' dx' (iH b_block b_place):=ajd (by rw[adb,Vn];decide +kernel)
structure Ad where
 sZ:Addr
 Header:Addr
 Event:Addr
 Table:Addr
 Stream:Addr
 dF:Addr
 eO:Addr
 iz:Addr
 Block:Addr
 mR:Addr
 Xl:Addr
 za:Addr
 GQ:Addr
 zJ:Addr
 lz:Addr
 Pk:Addr
 uf:Addr
structure Txt(K:Fg)(mg:Str->Option Value)(A:Ad):Prop where
 cO:RJ K A.sZ
 qO:gB K A.sZ "kind"
 JT:gB K A.sZ "flags"
 cP:gB K A.sZ "stream"
 eZ:gB K A.sZ "body"
 iK:RJ K A.Header
 gP:gB K A.Header "name"
 jD:gB K A.Header "value"
 mK:RJ K A.Event
 wg:gB K A.Event "kind"
 Hm:gB K A.Event "stream"
 FQ:gB K A.Event "no_more"
 Mu:gB K A.Event "code"
 rG:gB K A.Event "headers"
 v9:gB K A.Event "body"
 lZ:RJ K A.Table
 oF:gB K A.Table "fixed_ones"
 mW:gB K A.Table "newest_first"
 qd:gB K A.Table "weight_held"
 qP:gB K A.Table "weight_allowed"
 nF:RJ K A.Stream
 o9:gB K A.Stream "window"
 jJ:gB K A.Stream "more_may_come"
 mq:gB K A.Stream "answer_has_begun"
 cN:RJ K A.dF
 ni:gB K A.dF "first_bytes_come"
 vp:gB K A.dF "frame_bytes"
 oV:gB K A.dF "settings_have_come"
 lE:gB K A.dF "open_block"
 pN:gB K A.dF "failed"
 tK:gB K A.dF "highest"
 eV:gB K A.dF "streams"
 xK:gB K A.dF "window"
 qb:gB K A.dF "first_window"
 Eh:gB K A.dF "table"
 rW:gB K A.dF "block_was_sent"
 lu:gB K A.dF "unsent"
 xJ:gB K A.dF "untold"
 pG:gB K A.dF "untold_weight"
 kj:gB K A.dF "told_now"
 dN:RJ K A.iz
 nH:gB K A.iz "block"
 jR:gB K A.iz "place"
 lD:RJ K A.Block
 jm:gB K A.Block "stream"
 oU:gB K A.Block "depends_on_itself"
 zf:gB K A.Block "last"
 v8:gB K A.Block "packed"
 ju:RJ K A.mR
 Eg:gB K A.mR "calls"
 qN:gB K A.mR "place"
 mV:gB K A.mR "line"
 X6:Gc mg "DATA_FRAME" (.int 0)
 QF:Gc mg "HEADERS_FRAME" (.int 1)
 Vm:Gc mg "RESET_FRAME" (.int 3)
 wR:Gc mg "SETTINGS_FRAME" (.int 4)
 Yb:Gc mg "PING_FRAME" (.int 6)
 X5:Gc mg "AWAY_FRAME" (.int 7)
 Sh:Gc mg "WINDOW_FRAME" (.int 8)
 LR:Gc mg "MORE_FRAME" (.int 9)
 X8:Gc mg "LAST" (.int 1)
 zM:Gc mg "ANSWERED" (.int 1)
 Yc:Gc mg "WHOLE" (.int 4)
 afe:Gc mg "PADDED" (.int 8)
 QH:Gc mg "WITH_PRIORITY" (.int 32)
 oA:Gc mg "FINE" (.int 0)
 gj:Gc mg "OUT_OF_RULE" (.int 1)
 vo:Gc mg "WINDOW_TOO_LARGE" (.int 3)
 vm:Gc mg "NO_MORE_MAY_COME" (.int 5)
 lB:Gc mg "WRONG_LENGTH" (.int 6)
 Kh:Gc mg "TOO_MANY_STREAMS" (.int 7)
 NK:Gc mg "WRONGLY_PACKED" (.int 9)
 Sd:Gc mg "TOO_MUCH" (.int 11)
 yo:Gc mg "MOST_IN_FRAME" (.int 16384)
 QG:Gc mg "LOWER_31_BITS" (.int 2147483647)
 v7:Gc mg "SEVEN_BITS" (.int 127)
 abP:Gc mg "SIX_BITS" (.int 63)
 aaw:Gc mg "FIVE_BITS" (.int 31)
 Pn:Gc mg "FOUR_BITS" (.int 15)
 ac4:Gc mg "COLON" (.int 58)
 ad4:Gc mg "NOTHING" (.int 0)
 Wu:Gc mg "REQUEST" (.int 1)
 Sg:Gc mg "TRAILERS" (.int 2)
 afd:Gc mg "DATA" (.int 3)
 ag9:Gc mg "RESET" (.int 4)
 aax:Gc mg "GOES_AWAY" (.int 5)
 Pq:Gc mg "MOST_HELD" (.int 4096)
 G7:Gc mg "MOST_STREAMS" (.int 32)
 G8:Gc mg "MOST_WAITING" (.int 65536)
 Bg:Gc mg "WINDOW_AT_FIRST" (.int 65535)
 Mg:Gc mg "STREAMS_SETTING" (.int 3)
 ag8:Gc mg "KNOWN" (.int 128)
 abN:Gc mg "DONE" (.int 0)
 xO:Gc mg "NOT_RIGHT" (.int (-1))
 Bf:Gc mg "TOO_MUCH_UNSENT" (.int (-2))
 sH:Gc mg "LINE_HAS_FAILED" (.int (-4))
 Jq:Gc mg "MOST_HEADER_BYTES" (.int 16384)
 Ma:Gc mg "MOST_DATA_BYTES" (.int 65536)
 zN:Gc mg "LENGTH_BYTES" (.int 2)
 Vl:Gc mg "EMPTY_TABLE" (.int 32)
 Kg:Gc mg "MOST_BLOCK_BYTES" (.int 65536)
 Gk:Gc mg "MOST_HEADERS_WEIGHT" (.int 65536)
 BK:Gc mg "MOST_WINDOW" (.int 2147483647)
 yp:Gc mg "SETTING_BYTES" (.int 6)
 R8:Gc mg "PUSH_SETTING" (.int 2)
 NB:Gc mg "WINDOW_SETTING" (.int 4)
 Nz:Gc mg "LENGTH_SETTING" (.int 5)
 G6:Gc mg "LEAST_FRAME_LENGTH" (.int 16384)
 Jp:Gc mg "MOST_FRAME_LENGTH" (.int 16777215)
 DX:Gc mg "FRAME_HEAD" (.int 9)
 abO:Gc mg "MOST_FED" (.int 16384)
 abQ:Gc mg "TOO_MANY" (.int (-1))
 R7:Gc mg "MOST_AT_ONCE" (.int 65536)
 Mf:Gc mg "NONE_THERE" (.int (-1))
 R9:Gc mg "TOO_LONG" (.int (-2))
 aav:Gc mg "BLANKS" (.ref A.Xl)
 abk:∀H,Bx K H A.Xl [V.int 32,V.int 9]
 R6:Gc mg "BARRED_NAMES" (.ref A.za)
 Ip:∀H,Bx K H A.za [V.str "connection",V.str "keep-alive",V.str "proxy-connection",V.str "transfer-encoding",V.str "upgrade"]
 JP:Gc mg "NEEDED_ONCE" (.ref A.GQ)
 Cv:∀H,Bx K H A.GQ [V.str ":method",V.str ":scheme",V.str ":path"]
 X7:Gc mg "FIXED_ROWS" (.ref A.zJ)
 Wt:Gc mg "BY_KIND" (.ref A.lz)
 JN:Gc mg "FIRST_BYTES" (.ref A.Pk)
 J1:∀H,Bx K H A.Pk [V.int 80,V.int 82,V.int 73,V.int 32,V.int 42,V.int 32,V.int 72,V.int 84,V.int 84,V.int 80,V.int 47,V.int 50,V.int 46,V.int 48,V.int 13,V.int 10,V.int 13,V.int 10,V.int 83,V.int 77,V.int 13,V.int 10,V.int 13,V.int 10]
 ad3:Gc mg "BY_CALL" (.ref A.uf)
 gO:mg "len"=none
 Ri:mg "range"=none
 akm:mg "sum"=none
 ain:mg "min"=none
 akj:mg "max"=none
 aim:mg "all"=none
 akk:mg "ord"=none
 ae6:mg "sorted"=none
 akl:mg "set"=none
 Bb:mg "enumerate"=none
structure rC(P:Program)(w:World)(K:Fg)(mg:Str->Option Value)(base:Heap)(C:Addr)(m:Str)(CX:CXT)(k:Nat)(ps:List Str)(sp:Sp):Prop where
 ex:∃f fd,adX K C m f/\yO K fd ps []/\dR P w K mg base CX k f fd ps sp
structure DQ(P:Program)(w:World)(K:Fg)(mg:Str->Option Value)(base:Heap)(x:Str)(C:Addr)(k:Nat)(ps:List Str)(sp:Sp):Prop where
 ex:∃f fd,mg x=some (.ref C)/\Mk K C f/\yO K fd ps []/\dR P w K mg base dW k f fd ps sp
section
variable{X:Cx}{x m:Str}{k:Nat}{E:XK}{o:Expr}{ta:TE}{t:TA}{p:Pos}{pl:Sem Bool}
def qt(D:DQ X.prog X.w X.K X.mg X.base x C k ps sp)(hr:pB (k+1) X.A)(ha:PA X (e::es) t)(hg:Gl X x:=by rfl)(hdb:(x==("__debug__":Str))=false:=by decide)(he:starEach (e::es) X.env=(false,eval e X.env)::starEach es X.env:=by rfl)(hpl:(backTo pos (starEach es X.env)).any (·.1)=false:=by rfl):PE X (.Call (.Name x p) (e::es) [] pos) (Xa C sp [] E0 t):=
 let⟨_,_,hm,M,hb,F⟩:=D.ex
 ahN M F hr hg hm hb .nil lU ha hdb he hpl
def O1(D:DQ X.prog X.w X.K X.mg X.base x C k ps sp)(hr:pB (k+1) X.A)(hg:Gl X x:=by rfl)(hdb:(x==("__debug__":Str))=false:=by decide):PE X (.Call (.Name x p) [] [] pos) (Xa C sp [] E0 oO):=
 let⟨_,_,hm,M,hb,F⟩:=D.ex
 af5 M F hr hg hm hb .nil lU hdb
def nJ(c:RJ X.K C)(he:PE X o ta)(D:rC X.prog X.w X.K X.mg X.base C m CX k ps sp)(hr:pB k X.A)(hx:uF CX X E)(ha:PA X (e::es) t)(hst:starEach (e::es) X.env=(false,eval e X.env)::starEach es X.env:=by rfl)(hpl:(backTo pos (starEach es X.env)).any (·.1)=false:=by rfl)(ht:eval (.Call (.Attribute o m apos) (e::es) [] pos) X.env=(do
 let ov <-eval o X.env
 standAt apos.atName
 let (f,first) <-holding [ov] (getMethod ov m pl)
 callWith pos f first (backTo pos (starEach (e::es) X.env)) (backToKw pos (keywordEach [] X.env))):=by rfl):PE X (.Call (.Attribute o m apos) (e::es) [] pos) (Uy C m sp [] E ta t):=
 let⟨_,_,M,hb,F⟩:=D.ex
 ahO he c M F hr hb .nil hx ha hst hpl ht
def gU(c:RJ X.K C)(he:PE X o ta)(D:rC X.prog X.w X.K X.mg X.base C m CX k ps sp)(hr:pB k X.A)(hx:uF CX X E)(ht:eval (.Call (.Attribute o m apos) [] [] pos) X.env=(do
 let ov <-eval o X.env
 standAt apos.atName
 let (f,first) <-holding [ov] (getMethod ov m pl)
 callWith pos f first (backTo pos (starEach [] X.env)) (backToKw pos (keywordEach [] X.env))):=by rfl):PE X (.Call (.Attribute o m apos) [] [] pos) (Uy C m sp [] E ta oO):=
 let⟨_,_,M,hb,F⟩:=D.ex
 af6 he c M F hr hb .nil hx ht
def MN{op:Operator}(hN:X.N.Nodup)(hi:X.N[i]? = some x)(hx:Loc X.env.scope x)(ho:Jh X (inplaceOp op) r)(he:PE X e te)(hf:X.fn x=true\/X.env.scope.names.lookup x=some .local:=by first|exact .inl rfl|exact .inr rfl|assumption):PS X (.AugAssign (.Name x pos') op e pos) (ajO i te r):=
 ajz hN hi hx he (λaN s σ H x y v u Q I rx ry h=>ho aN s σ H x y v u Q I rx ry h) hf
end
end My
variable{A:My.Ad}
namespace My
open PySem L2
def ad1:∀f:_root_.Fin 256,∀b:_root_.Fin 33,(b.val=1\/b.val=4\/b.val=8\/b.val=32)->(!decide (Builtin.bitAnd (f.val:Int) (b.val:Int)=0))=decide (f.val / b.val%2=1):=by decide +kernel
def ae9{f b:Nat}(hf:f<256)(hb:b=1\/b=4\/b=8\/b=32):(!decide (Builtin.bitAnd (f:Int) (b:Int)=0))=decide (f / b%2=1):=ad1 ⟨f,hf⟩ ⟨b,by omega⟩ hb
def Xm(A:Ad)(H:Hp)(a:Addr)(kind flags stream:Nat)(body:Addr):Prop:=∃dx,H a=some (.ins A.sZ dx (Bm kind flags stream body))
inductive Qi(A:Ad)(vs:List V)(H:Hp)(Q:VK)(_:XK):Prop
 |mk (p dx:Addr) (k f s:Nat) (b:Addr) (_:vs=[.ref p,.int k,.int f,.int s,.ref b]) (_:H p=some (.ins A.sZ dx [])) (_:∀H':Hp,Xm A H' p k f s b->(∀c o,H c=some o->c≠p->H' c=some o)->Q .non H')
def Vw(F:j5 K "__init__" "Frame.__init__" Eu f fd)(T:Txt K mg A):dR P w K mg base dW 1 f fd ["self","kind","flags","stream","body"] (Qi A):=by
 refine F.mZ (N:=["self","kind","flags","stream","body"]) (λ_ _ _ s _ _ _ _ _ h _=>?_)
 . obtain⟨p,dx,k,f,s,b,rfl,hp,q⟩:=h;refine⟨_,(ao (abu 0 (pv 1) rfl)
    (ao (abu 0 (pv 2) rfl)
    (ao (abu 0 (pv 3) rfl)
    (aG (abu 0 (pv 4) rfl))))),?_⟩
   refine⟨_,rfl,rfl,hp,T.cO,T.qO,(by show 0<1000;decide),?_⟩
   refine⟨_,rfl,rfl,aB,T.cO,T.JT,(by show 1<1000;decide),?_⟩
   refine⟨_,rfl,rfl,aB,T.cO,T.cP,(by show 2<1000;decide),?_⟩
   refine⟨_,rfl,rfl,aB,T.cO,T.eZ,(by show 3<1000;decide),?_⟩
   rw[jc,jc,jc,ahn];exact q _ ⟨dx,aB⟩ λc o e hc=>by rw[aM hc];exact e
inductive uV(A:Ad)(vs:List V)(H:Hp)(Q:VK)(_:XK):Prop
 |mk (a:Addr) (k f s bit:Nat) (b:Addr) (_:vs=[.ref a,.int bit]) (_:Xm A H a k f s b) (_:f<256) (_:(bit=1\/bit=4\/bit=8\/bit=32)) (_:Q (.bl (decide (f / bit%2=1))) H)
def acn(F:j5 K "has_set" "Frame.has_set" yz f fd)(T:Txt K mg A):dR P w K mg base dW 1 f fd ["self","bit"] (uV A):=by
 refine F.mZ (N:=["self","bit"]) (λ_ _ _ s _ _ _ _ _ h _=>?_)
 . obtain⟨a,k,f,s,bit,b,rfl,⟨dx,ha⟩,hf,hbit,q⟩:=h;refine⟨_,(aG (aZ (mL uA (iW Y4 (aaO 0 rfl) (pv 1)) bx (bO _)))),?_⟩;refine⟨rfl,ha,T.cO,T.JT,Vs,_,rfl,_,_,rfl,rfl,rfl,?_⟩;have e:(!decide (V.int (Builtin.bitAnd (f:Int) (bit:Int))=V.int 0))=decide (f / bit%2=1):=by
    have e0:decide (V.int (Builtin.bitAnd (f:Int) (bit:Int))=V.int 0)=decide (Builtin.bitAnd (f:Int) (bit:Int)=0):=by simp
    rw[e0];exact ae9 hf hbit
   rw[e];exact q
def okX{x qual:Str}{k:Nat}(F:j5 K x qual st f fd)(S:bz N ps (aR st))(len:∀vs H Q E,sp vs H Q E->vs.length=ps.length)(hbody:∀(wU:Value)(A:Around)(fO:List Env)(s:Shared)(H:Hp)(vs:List V)(Q:VK)(E:XK),pB k (A.deeper (PyProof.Rows.envOfC qual (aR st) s.heap.objs.size f wU))->sp vs H Q E ->
 ∃t,Z5 (N5 (Iw P w C) P w K mg base N qual (aR st) f wU A fO s H E) (pC st) t/\t {nx:=λ_ H'=>Q .non H',rt:=Q} (start N vs) H):dR P w K mg base (Iw P w C) (k+1) f fd ps sp:=by
 obtain⟨oc,od,kV,doc,pm,an,wU,ct,osl,rfl,lk,hcd⟩:=F.ex;exact air lk hcd S len λA fO s H vs Q E hr hsp=>hbody wU A fO s H vs Q E hr hsp
def wN(r:Addr)(H H':Hp):Prop:=∀b o,H b=some o->b≠r->H' b=some o
def wN.refl{r:Addr}:wN r H H:=λ_ _ e _=>e
def wN.bM{r:Addr}{H:Hp}{o:HO}:wN r H (bM H r o):=λb u e hb=>by rw[aM hb];exact e
def wN.trans{r:Addr}(a:wN r H H1)(b:wN r H1 H2):wN r H H2:=λc o e hc=>b c o (a c o e hc) hc
structure Wb(mg:Str->Option Value)(A:Ad)(base:Heap):Prop where
 ex:∃B newId initId bmB,Nonempty (ExcBaseFacts B newId initId bmB)/\PyProof.Rows.OwnClsQ "WrongBlock" A.eO bmB newId mg base/\bmB.contains (.type "BaseException")=true
def zZ{qual:Str}{cd:Value}{A':Around}{fO:List Env}{E:XK}{z:Str}{np cpos:Pos}(W:Wb mg A base)(hg:Gl (N5 (Iw P w A.eO) P w K mg base N qual scope f cd A' fO s H E) "WrongBlock":=by rfl):
 PS (N5 (Iw P w A.eO) P w K mg base N qual scope f cd A' fO s H E) (.Raise (some (.Call (.Name "WrongBlock" np) [.Constant (.str z) j apos] [] cpos)) none pos) (agI A.eO E):=by
 obtain⟨B,newId,initId,bmB,⟨F⟩,O,hb⟩:=W.ex;exact agc F O.own hb hg
structure DR(A:Ad)(H:Hp)(r dx bl:Addr)(b:Rb)(p:Nat):Prop where
 ob:H r=some (.ins A.iz dx (iH bl p))
 bs:H bl=some (.cM (bv b))
abbrev rdO(A:Ad)(dx bl:Addr)(p:Nat):HO:=.ins A.iz dx (iH bl p)
def DR.ne{r bl:Addr}(R:DR A H r dx bl b p):bl≠r:=CT R.bs R.ob (by intro z;cases z)
def DR.bM{H:Hp}{r dx bl:Addr}{b:Rb}{p:Nat}(R:DR A H r dx bl b p)(p':Nat):DR A (bM H r (rdO A dx bl p')) r dx bl b p':=⟨aB,by rw[aM R.ne];exact R.bs⟩
inductive Zr(A:Ad)(vs:List V)(H:Hp)(Q:VK)(_:XK):Prop
 |mk (r dx bl:Addr) (b:Rb) (p:Nat) (_:vs=[.ref r]) (_:DR A H r dx bl b p) (_:Q (.bl (decide (b.length<=p))) H)
def aeD(F:j5 K "at_end" "BlockReader.at_end" tM f fd)(T:Txt K mg A):dR P w K mg base dW 1 f fd ["self"] (Zr A):=by
 refine F.mZ (N:=["self"]) (λ_ _ _ _ H _ Q _ _ h _=>?_)
 . obtain⟨r,dx,bl,b,p,rfl,R,q⟩:=h;obtain⟨hr1,hb⟩:=id R;refine⟨_,(aG (aZ (mL TJ (aaO 0 rfl) (bV bc (by rfl) T.gO aO (aa (aaO 0 rfl) aK)) (bO _)))),?_⟩;refine⟨rfl,(by assumption),T.dN,T.jR,nG,rfl,(by assumption),T.dN,T.nH,p8,_,_,rfl,.inl (fH.of (by assumption)),_,_,rfl,rfl,?_⟩;have e:decide (((bv b).length:Int)<=(p:Int))=decide (b.length<=p):=by rw[cA];simp
   show Q (.bl (decide (((bv b).length:Int)<=(p:Int)))) H
   rw[e];exact q
def Wr(A:Ad)(E:XK)(r:Addr)(H:Hp):Prop:=∀H',wN r H H'->E (.ref A.eO) none H'
inductive Zw(A:Ad)(vs:List V)(H:Hp)(Q:VK)(E:XK):Prop
 |mk (r dx bl:Addr) (b:Rb) (p:Nat) (_:vs=[.ref r]) (_:DR A H r dx bl b p) (_:(∀c,b[p]? = some c->Q (.int (c.toNat:Int)) H)) (_:(b[p]? = none->Wr A E r H))
def ahD(F:j5 K "look_at_byte" "BlockReader.look_at_byte" oH f fd)(T:Txt K mg A)(W:Wb mg A base)(kW:rC P w K mg base A.iz "at_end" dW 1 ["self"] (Zr A)):
 dR P w K mg base (Iw P w A.eO) 2 f fd ["self"] (Zw A):=by
 refine okX F zq (λvs H Q E h=>?_) (λwU A' fO s H vs Q E hr h=>?_)
 . obtain⟨r,dx,bl,b,p,rfl,_⟩:=h;rfl
 . obtain⟨r,dx,bl,b,p,rfl,R,q1,q2⟩:=h;obtain⟨hr1,hb⟩:=id R;refine⟨_,(ao (cV (iB (gU T.dN (pv 0) kW hr.lw lU)) (aG (zZ W)) bC)
    (aG (aZ (vU pZ (aaO 0 rfl) (aaO 0 rfl) (λ_ _=>rfl))))),?_⟩
   refine⟨_,rfl,_,_,_,rfl,(by assumption),xQ,r,dx,bl,b,p,rfl,R,_,rfl,?_⟩;refine Yr (λh=>?_) (λh=>?_)
   . exact q2 (km.mpr (bL h)) H wN.refl
   . have hp:p<b.length:=by
      have:=jw (by cases z:decide (b.length<=p) with|false=>rfl|true=>exact absurd z h);omega
     refine⟨rfl,(by assumption),T.dN,T.nH,p8,rfl,(by assumption),T.dN,T.jR,nG,_,_,_,_,rfl,rfl,fH.of (by assumption),
      jN (j:=p) rfl (show (bv b)[p]? = some (.int (b[p].toNat:Int)) by unfold bv;rw[bA,bf hp];rfl),?_⟩
     exact q1 _ (bf hp)
inductive Uu(A:Ad)(vs:List V)(H:Hp)(Q:VK)(E:XK):Prop
 |mk (r dx bl:Addr) (b:Rb) (p:Nat) (_:vs=[.ref r]) (_:DR A H r dx bl b p) (_:(∀c,b[p]? = some c->Q (.int (c.toNat:Int)) (bM H r (rdO A dx bl (p+1))))) (_:(b[p]? = none->Wr A E r H))
def YX(F:j5 K "read_byte" "BlockReader.read_byte" qu f fd)(T:Txt K mg A)(fB:rC P w K mg base A.iz "look_at_byte" (Iw P w A.eO) 2 ["self"] (Zw A)):
 dR P w K mg base (Iw P w A.eO) 3 f fd ["self"] (Uu A):=by
 refine okX F uU (λvs H Q E h=>?_) (λwU A' fO s H vs Q E hr h=>?_)
 . obtain⟨r,dx,bl,b,p,rfl,_⟩:=h;rfl
 . obtain⟨r,dx,bl,b,p,rfl,R,q1,q2⟩:=h;obtain⟨hr1,hb⟩:=id R;refine⟨_,(ao (cB (i:=1) uU.nd rfl (Or.inl rfl) (gU T.dN (pv 0) fB hr.lw xT))
    (ao (aa8 0 bx Hh)
    (aG (aZ (pv 1))))),?_⟩
   refine⟨_,rfl,_,_,_,rfl,(by assumption),oE,r,dx,bl,b,p,rfl,R,λc hc=>?_,q2⟩;refine⟨rfl,(by assumption),T.dN,T.jR,nG,_,_,rfl,rfl,_,_,(by assumption),J2,?_⟩;refine⟨_,rfl,?_⟩;have:=q1 c hc;rw[yU];exact this
def IW{α:Type}{b:List α}{c:α}(h:b[p]? = some c):b.drop p=c::b.drop (p+1):=by
 obtain⟨hp,e⟩:=bh.mp h;rw[iy hp,e]
def N6{α:Type}{b:List α}(h:b[p]? = none):b.drop p=[]:=eU (km.mp h)
def Hk(c bits:Nat):Builtin.bitAnd (c:Int) ((2^bits-1:Nat):Int)=((c%2^bits:Nat):Int):=by
 have h1:1<=2^bits:=Nat.one_le_two_pow;have e:((2^bits-1:Nat):Int)=2^bits-1:=by rw[Int.natCast_sub h1];simp
 rw[e,Bits.aar bits (Int.natCast_nonneg c)];simp
inductive wI(A:Ad)(vs:List V)(H:Hp)(Q:VK)(E:XK):Prop
 |mk (r dx bl:Addr) (b:Rb) (p bits:Nat) (_:vs=[.ref r,.int ((2^bits-1:Nat):Int)]) (_:bits<=7) (_:DR A H r dx bl b p) (_:(∀n p',Rc28.intIn bits (b.drop p)=some (n,b.drop p')->p<p'->p'<=b.length->Q (.int (n:Int)) (bM H r (rdO A dx bl p')))) (_:(Rc28.intIn bits (b.drop p)=none->Wr A E r H))
def Tw(F:j5 K "read_number" "BlockReader.read_number" oW f fd)(T:Txt K mg A)(W:Wb mg A base)(m5:rC P w K mg base A.iz "read_byte" (Iw P w A.eO) 3 ["self"] (Uu A)):
 dR P w K mg base (Iw P w A.eO) 4 f fd ["self","ones"] (wI A):=by
 refine okX F gY (λvs H Q E h=>?_) (λwU A' fO s H vs Q E hr h=>?_)
 . obtain⟨r,dx,bl,b,p,bits,rfl,_⟩:=h;rfl
 . obtain⟨r,dx,bl,b,p,bits,rfl,hbits,R,q1,q2⟩:=h;obtain⟨hr1,hb⟩:=id R;refine⟨_,(ao (cB (i:=2) gY.nd rfl (Or.inl rfl) (iW Y4 (gU T.dN (pv 0) m5 hr.lw xT) (pv 1)))
    (ao (cV (bF yS (pv 2) (pv 1) (bO _)) (aG (aZ (pv 2))) bC)
    (ao (cB (i:=3) gY.nd rfl (Or.inl rfl) bx)
    (ao (wj PassesOwn.leaving rfl (WW (by rfl) T.Ri (aa bx aK)) (jY (i:=4) gY.nd rfl (Or.inl rfl)) (ao (cB (i:=5) gY.nd rfl (Or.inl rfl) (gU T.dN (pv 0) m5 hr.lw xT))
    (ao (MN (i:=2) gY.nd rfl (Or.inl rfl) Rp (iW acq (iW Y4 (pv 5) (cR T.v7)) (pv 3)))
    (ao (cV (bF yS (pv 5) bx (bO _)) (aG (aZ (pv 2))) bC)
    (aG (MN (i:=3) gY.nd rfl (Or.inl rfl) ahq bx))))))
    (aG (zZ W)))))),?_⟩
   refine⟨_,rfl,_,_,_,rfl,(by assumption),vO,r,dx,bl,b,p,rfl,R,λc hc=>?_,λhn=>q2 (by rw[N6 hn];rfl)⟩
   have hd:=IW hc;have hp:p<b.length:=(bh.mp hc).1;refine⟨_,rfl,_,_,rfl,rfl,?_⟩;dsimp only;rw[Hk];refine⟨_,rfl,_,rfl,_,_,rfl,rfl,_,rfl,?_⟩;refine Yr (λh=>?_) (λh=>?_)
   . have h:c.toNat%2^bits<2^bits-1:=by have:=bL h;omega
     refine⟨_,rfl,q1 _ (p+1) ?_ (by omega) (by omega)⟩;rw[hd];show (if c.toNat%2^bits<2^bits-1 then _ else _)=_
     rw[if_pos h]
   . have h:¬c.toNat%2^bits<2^bits-1:=λz=>h (az (by omega));have hn:c.toNat%2^bits=2^bits-1:=by
      have:c.toNat%2^bits<2^bits:=Nat.mod_lt _ (Nat.two_pow_pos bits);omega
     have hin:Rc28.intIn bits (b.drop p)=Rc28.more 4 (2^bits-1) 1 (b.drop (p+1)):=by
      rw[hd];show (if c.toNat%2^bits<2^bits-1 then _ else _)=_
      rw[if_neg h]
     refine⟨_,rfl,by decide,by decide,Wy (n:=4) (λi σ H2=>∃(n k:Nat)(v4 v5:Option V),i<=4/\p+1+i<=b.length/\k=128^i/\Rc28.intIn bits (b.drop p)=Rc28.more (4-i) n k (b.drop (p+1+i)) /\
      σ=[some (.ref r),some (.int ((2^bits-1:Nat):Int)),some (.int (n:Int)),some (.int (k:Int)),v4,v5]/\H2=bM H r (rdO A dx bl (p+1+i)))
      ⟨_,1,none,none,by omega,by omega,rfl,by rw[hn];exact hin,rfl,rfl⟩ ?_ ?_⟩
     . rintro i σ H2 hi ⟨n,k,v4,v5,hi4,hpi,hk,hm,rfl,rfl⟩;have R2:=R.bM (p+1+i);refine⟨_,rfl,_,_,_,rfl,aB,vO,r,dx,bl,b,p+1+i,rfl,R2,λc2 hc2=>?_,λhn2=>λH' hH'=>q2 ?_ H' (wN.bM.trans hH')⟩
       . have hd2:=IW hc2;have hp2:p+1+i<b.length:=(bh.mp hc2).1;rw[jc];have hlt:i<4:=by omega
         obtain⟨j,hj⟩:∃j,4-i=j+1:=⟨3-i,by omega⟩;refine⟨_,rfl,_,rfl,_,_,rfl,rfl,_,rfl,_,_,rfl,rfl,?_,_,_,rfl,rfl,?_⟩
         . exact .inl ⟨by rw[show (127:Int)=((2^7-1:Nat):Int) from rfl,Hk];omega,by rw[show (127:Int)=((2^7-1:Nat):Int) from rfl,Hk];omega⟩
         . dsimp only;rw[show (127:Int)=((2^7-1:Nat):Int) from rfl,Hk];refine⟨_,rfl,_,_,rfl,rfl,_,rfl,?_⟩;have hmm:Rc28.more (4-i) n k (b.drop (p+1+i))=if c2.toNat<128 then some (n+c2.toNat*k,b.drop (p+1+i+1)) else Rc28.more j (n+(c2.toNat-128)*k) (128*k) (b.drop (p+1+i+1)):=by rw[hj,hd2];rfl
           have h256:c2.toNat<256:=c2.toNat_lt;refine Yr (λh=>?_) (λh=>?_)
           . have h:c2.toNat<128:=by have:=bL h;omega
             refine⟨_,rfl,?_⟩;have e:(n:Int)+((c2.toNat%2^7:Nat):Int)*(k:Int)=((n+c2.toNat*k:Nat):Int):=by
              rw[Nat.mod_eq_of_lt (by omega)];simp
             rw[e];exact q1 _ (p+1+i+1) (by rw[hm,hmm,if_pos h]) (by omega) (by omega)
           . have h:¬c2.toNat<128:=λz=>h (az (by omega));refine⟨_,rfl,_,_,rfl,rfl,.inr ⟨by decide,by decide⟩,?_⟩;refine⟨n+(c2.toNat-128)*k,128*k,some (.int (0+(i:Int))),some (.int (c2.toNat:Int)),by omega,by omega,by rw[hk,Nat.pow_succ];omega,?_,?_,rfl⟩
             . rw[hm,hmm,if_neg h,show 4-(i+1)=j by omega];rfl
             . have e:(n:Int)+((c2.toNat%2^7:Nat):Int)*(k:Int)=((n+(c2.toNat-128)*k:Nat):Int):=by
                rw[show c2.toNat%2^7=c2.toNat-128 by omega];simp
               have e2:(k:Int)*128=((128*k:Nat):Int):=by omega
               rw[<-e,<-e2];rfl
       . rw[hm,N6 hn2];obtain⟨j,hj⟩:∃j,4-i=j+1:=⟨3-i,by omega⟩;rw[hj];rfl
     . rintro σ H2 ⟨n,k,v4,v5,hi4,hpi,hk,hm,rfl,rfl⟩;exact q2 (by rw[hm];rfl) _ wN.bM
def NT(h:i+n<=xs.length):sV xs (some (i:Int)) (some ((i:Int)+(n:Int)))=(xs.drop i).take n:=by
 unfold sV;have e1:HT.uX xs.length 0 (some (i:Int))=i:=by rw[HT.Jc];omega
 have e2:HT.uX xs.length xs.length (some ((i:Int)+(n:Int)))=i+n:=by
  rw[show (i:Int)+(n:Int)=((i+n:Nat):Int) by omega,HT.Jc];omega
 rw[e1,e2,show i+n-i=n by omega]
def uq(b:Rb)(i:Nat):bv (b.drop i)=(bv b).drop i:=by unfold bv;rw[List.map_drop]
def pY(b:Rb)(i:Nat):bv (b.take i)=(bv b).take i:=by unfold bv;rw[List.map_take]
inductive Lg(A:Ad)(vs:List V)(H:Hp)(Q:VK)(E:XK):Prop
 |mk (r dx bl:Addr) (b:Rb) (p:Nat) (_:vs=[.ref r]) (_:DR A H r dx bl b p) (_:(∀(t:Rb)(p':Nat)(l:Addr)(H':Hp),Rc28.textIn (b.drop p)=some (t,b.drop p')->p<p'->p'<=b.length->H l=none->H' l=some (.cM (bv t))->H' r=some (rdO A dx bl p')->wN r H H'->Q (.ref l) H')) (_:(Rc28.textIn (b.drop p)=none->Wr A E r H))
def YZ(F:j5 K "read_text" "BlockReader.read_text" qw f fd)(T:Txt K mg A)(W:Wb mg A base)(fB:rC P w K mg base A.iz "look_at_byte" (Iw P w A.eO) 2 ["self"] (Zw A))(dG:rC P w K mg base A.iz "read_number" (Iw P w A.eO) 4 ["self","ones"] (wI A)):dR P w K mg base (Iw P w A.eO) 5 f fd ["self"] (Lg A):=by
 refine okX F mO (λvs H Q E h=>?_) (λwU A' fO s H vs Q E hr h=>?_)
 . obtain⟨r,dx,bl,b,p,rfl,_⟩:=h;rfl
 . obtain⟨r,dx,bl,b,p,rfl,R,q1,q2⟩:=h;obtain⟨hr1,hb⟩:=id R;refine⟨_,(ao (cV (bF TJ (gU T.dN (pv 0) fB hr.lw xT) bx (bO _)) (aG (zZ W)) bC)
    (ao (cB (i:=1) mO.nd rfl (Or.inl rfl) (nJ T.dN (pv 0) dG hr.lw xT (aa (cR T.v7) aK)))
    (ao (cB (i:=2) mO.nd rfl (Or.inl rfl) (iW oG (aaO 0 rfl) (pv 1)))
    (ao (cV (bF qF (pv 2) (bV bc (by rfl) T.gO aO (aa (aaO 0 rfl) aK)) (bO _)) (aG (zZ W)) bC)
    (ao (cB (i:=3) mO.nd rfl (Or.inl rfl) (jz lG (aaO 0 rfl) (iu (aaO 0 rfl)) (iu (pv 2))))
    (ao (abu 0 (pv 2) rfl)
    (aG (aZ (pv 3))))))))),?_⟩
   refine⟨_,rfl,_,_,_,rfl,(by assumption),oE,r,dx,bl,b,p,rfl,R,λc hc=>?_,λhn=>q2 (by rw[N6 hn];rfl)⟩
   have hd:=IW hc;have htx:Rc28.textIn (b.drop p)=if c.toNat<128 then (Rc28.intIn 7 (b.drop p)).bind λx=>if x.2.length<x.1 then none else some (x.2.take x.1,x.2.drop x.1) else none:=by
    unfold Rc28.textIn;rw[hd];show (if (decide (c.toNat<128))=false then none else _)=_
    by_cases h:c.toNat<128
    . rw[az h,if_pos h,if_neg (by simp)]
    . rw[aq h,if_neg h,if_pos rfl]
   refine⟨_,_,rfl,rfl,_,rfl,?_⟩;refine Yr (λh=>?_) (λh=>?_)
   . have h:¬c.toNat<128:=by have:=bL h;omega
     exact q2 (by rw[htx,if_neg h]) H wN.refl
   . have h:c.toNat<128:=by
      have:=jw (by cases z:decide ((128:Int)<=(c.toNat:Int)) with|false=>rfl|true=>exact absurd z h);omega
     rw[if_pos h]at htx;refine⟨_,rfl,_,_,_,rfl,(by assumption),mj,r,dx,bl,b,p,7,rfl,by decide,R,λn p1 hi hp1 hp1'=>?_,λhn=>q2 (by rw[htx,hn];rfl)⟩
     rw[hi]at htx;have htx:Rc28.textIn (b.drop p)=if (b.drop p1).length<n then none else some ((b.drop p1).take n,(b.drop p1).drop n):=htx
     rw[bu,gw]at htx;have R2:=R.bM p1;obtain⟨hr2,hb2⟩:=id R2;refine⟨rfl,(by assumption),T.dN,T.jR,nG,_,rfl,_,_,rfl,rfl,?_⟩;refine⟨_,rfl,rfl,(by assumption),T.dN,T.nH,p8,_,_,rfl,.inl (fH.of (by assumption)),_,_,rfl,rfl,_,rfl,?_⟩;refine Yr (λh=>?_) (λh=>?_)
     . have h:=bL h;rw[cA]at h;exact q2 (by rw[htx,if_pos (by omega)]) _ wN.bM
     . have h:=jw (by cases z:decide (((bv b).length:Int)<(p1:Int)+(n:Int)) with|false=>rfl|true=>exact absurd z h);rw[cA]at h;refine⟨rfl,(by assumption),T.dN,T.nH,p8,rfl,(by assumption),T.dN,T.jR,nG,_,rfl,_,rfl,_,rfl,_,_,rfl,fH.of (by assumption),λl hl=>?_⟩;have hlr:l≠r:=by rintro rfl;rw[aB]at hl;cases hl
       refine⟨_,rfl,rfl,(by rw[aM hlr.symm];exact hr2),T.dN,T.jR,J2,?_⟩
       refine⟨_,rfl,?_⟩;rw[yU,NT (by rw[cA];omega)]
       refine q1 ((b.drop p1).take n) (p1+n) l _ (by rw[htx,if_neg (by omega)]) (by omega) (by omega) (by rw[aM hlr]at hl;exact hl) (by rw[aM hlr,aB,pY,uq]) aB λa o e ha=>?_
       have hal:a≠l:=by rintro rfl;rw[aM ha,e]at hl;cases hl
       rw[aM ha,aM hal,aM ha];exact e
def gm(X:List Addr)(H H':Hp):Prop:=∀b o,H b=some o->b∉X->H' b=some o
def gm.refl:gm X H H:=λ_ _ e _=>e
def gm.trans(a:gm X H H1)(b:gm X H1 H2):gm X H H2:=λc o e hc=>b c o (a c o e hc) hc
def gm.mono(a:gm X H H')(h:∀x∈X,x∈Y):gm Y H H':=λc o e hc=>a c o e λm=>hc (h c m)
def gm.bM{X:List Addr}{H:Hp}{r:Addr}{o:HO}(m:r∈X):gm X H (bM H r o):=λc u e hc=>by
 rw[aM (λz=>hc (by rw[z];exact m))];exact e
def gm.new{r:Addr}{o:HO}(n:H r=none):gm X H (L2.bM H r o):=λc u e _=>by
 rw[aM (aD e n)];exact e
def cZ.iV(s:cZ H H'):gm X H H':=λc o e _=>s c o e
def wN.iV{r:Addr}(s:wN r H H')(m:r∈X):gm X H H':=λc o e hc=>s c o e λz=>hc (by rw[z];exact m)
def gm.fresh(a:gm X H H'){l:Addr}(h:H' l=none)(hl:l∉X):H l=none:=by
 cases e:H l with
 |none=>rfl
 |some o=>rw[a l o e hl]at h;cases h
inductive sU(A:Ad)(X:List Addr)(H:Hp)(a:Addr)(h:Rh):Prop
 |mk (dx:_) (n:_) (v:_) (_:H a=some (.ins A.Header dx (rF n v))) (_:H n=some (.cM (bv h.1))) (_:H v=some (.cM (bv h.2))) (_:a∉X) (_:n∉X) (_:v∉X)
def sU.iV{h:Rh}(x:sU A X H a h)(o:gm X H H'):sU A X H' a h:=by
 obtain⟨dx,n,v,h1,h2,h3,n1,n2,n3⟩:=x;exact⟨dx,n,v,o _ _ h1 n1,o _ _ h2 n2,o _ _ h3 n3,n1,n2,n3⟩
def sU.BL{h:Rh}(x:sU A X H a h)(g:∀y∈Y,y∈X\/H y=none):sU A Y H a h:=by
 obtain⟨dx,n,v,h1,h2,h3,n1,n2,n3⟩:=x;have out:∀{b:Addr}{o:HO},H b=some o->b∉X->b∉Y:=λe nb m=>by
  rcases g _ m with z|z
  . exact nb z
  . rw[e]at z;cases z
 exact⟨dx,n,v,h1,h2,h3,out h1 n1,out h2 n2,out h3 n3⟩
def bN{α β:Type}{F G:α->β->Prop}:∀{l:List α}{m:List β},Paired F l m->(∀a b,F a b->G a b)->Paired G l m:=λp f=>Paired.ahu p f
def fj{α β:Type}{F:α->β->Prop}{l:List α}{m:List β}(p:Paired F l m):l.length=m.length:=gk p
theorem gW{α β:Type}{F:α->β->Prop}:∀{l:List α}{m:List β}{i:Nat}{b:β},Paired F l m->m[i]? = some b->∃a,l[i]? = some a/\F a b
 |_,_,_,_,.nil,e=>by simp at e
 |_,_,0,_,.cons r _,e=>by simp at e;subst e;exact⟨_,rfl,r⟩
 |_,_,i+1,_,.cons _ t,e=>by
  obtain⟨a,h1,h2⟩:=gW (i:=i) t (by simpa using e);exact⟨a,by simpa using h1,h2⟩
theorem P0{α β:Type}{F:α->β->Prop}:∀{l:List α}{m:List β}{a:α}{b:β},Paired F (l++[a]) (m++[b])->Paired F l m
 |[],[],_,_,_=>.nil
 |[],_::m,_,_,.cons _ t=>by have:=gk t;simp at this
 |_::l,[],_,_,.cons _ t=>by have:=gk t;simp at this
 |_::l,_::m,_,_,.cons r t=>.cons r (P0 (l:=l) (m:=m) t)
structure rE(A:Ad)(X:List Addr)(H:Hp)(t dt nf fx:Addr)(rows:List Rh)(m:Nat):Prop where
 ob:H t=some (.ins A.Table dt (mH fx nf (tw rows:Nat) (m:Nat)))
 nw:∃as,H nf=some (.cM (as.map V.ref))/\Paired (sU A X H) as rows
 fi:∃fs,H fx=some (.cM (fs.map V.ref))/\Paired (sU A X H) fs Rc28.FIXED
 fX:fx∉X
 tX:t∈X
 nX:nf∈X
def rE.iV{A:Ad}{X Y:List Addr}{H H':Hp}{t dt nf fx:Addr}{rows:List Rh}{m:Nat}(x:rE A X H t dt nf fx rows m)(o:gm Y H H')(hY:∀y∈Y,y∈X)(nt:t∉Y)(nn:nf∉Y):rE A X H' t dt nf fx rows m:=by
 have oX:=o.mono hY;obtain⟨as,h1,h2⟩:=x.nw;obtain⟨fs,h3,h4⟩:=x.fi;exact⟨o _ _ x.ob nt,⟨as,o _ _ h1 nn,bN h2 λ_ _ z=>z.iV oX⟩,⟨fs,oX _ _ h3 x.fX,bN h4 λ_ _ z=>z.iV oX⟩,x.fX,x.tX,x.nX⟩
def Wi(t:TE)(σ:St)(H:Hp)(v:V):Prop:=∀Q:VK,Q v H->t σ H Q
def vN{ta tb tc:TE}{a b c:Int}{p1 p2:Int->Int->Bool}(va:Wi ta σ H (.int a))(vb:Wi tb σ H (.int b))(vc:Wi tc σ H (.int c)):
 Wi (acI (rI0 λi j=>.bl (p1 i j)) (rI0 λi j=>.bl (p2 i j)) ta tb tc) σ H (.bl (p1 a b&&p2 b c)):=λQ q=>by
 refine va _ (vb _ ⟨a,b,rfl,rfl,_,rfl,?_⟩);by_cases h:p1 a b=true
 . rw[if_pos h];refine vc _ ⟨b,c,rfl,rfl,?_⟩;rw[h,fK]at q;exact q
 . rw[if_neg h];have h:p1 a b=false:=by cases z:p1 a b with|false=>rfl|true=>exact absurd z h
   rw[h,jd]at q;exact q
def ab5{c:Bool}{t u:TS}(v:Wi te σ H (.bl c))(h1:c=true->t D σ H)(h2:c=false->u D σ H):acJ (Ql te) t u D σ H:=by
 refine v _ ⟨c,rfl,?_⟩
 cases c with
 |true=>rw[if_pos rfl];exact h1 rfl
 |false=>rw[if_neg aW];exact h2 rfl
inductive wH(A:Ad)(vs:List V)(H:Hp)(Q:VK)(_:XK):Prop
 |mk (p dx n v:Addr) (_:vs=[.ref p,.ref n,.ref v]) (_:H p=some (.ins A.Header dx [])) (_:Q .non (bM H p (.ins A.Header dx (rF n v))))
def Tg(F:j5 K "__init__" "Header.__init__" BX f fd)(T:Txt K mg A):dR P w K mg base dW 1 f fd ["self","name","value"] (wH A):=by
 refine F.mZ (N:=["self","name","value"]) (λ_ _ _ _ _ _ _ _ _ h _=>?_)
 . obtain⟨p,dx,n,v,rfl,hp,q⟩:=h;refine⟨_,(ao (abu 0 (pv 1) rfl) (aG (abu 0 (pv 2) rfl))),?_⟩;refine⟨_,rfl,rfl,(by assumption),T.iK,T.gP,(by show 0<1000;decide),?_⟩
   refine⟨_,rfl,rfl,aB,T.iK,T.jD,(by show 1<1000;decide),?_⟩
   rw[jc,afI];exact q
inductive Nf(A:Ad)(vs:List V)(H:Hp)(Q:VK)(_:XK):Prop
 |mk (X:List Addr) (a:Addr) (h:Rh) (_:vs=[.ref a]) (_:sU A X H a h) (_:Q (.int (Rc28.weight h:Nat)) H)
def JC(F:j5 K "weight_of_header" "weight_of_header" vH f fd)(T:Txt K mg A):dR P w K mg base dW 1 f fd ["header"] (Nf A):=by
 refine F.mZ (N:=["header"]) (λ_ _ _ _ _ _ _ _ _ h _=>?_)
 . obtain⟨X,a,h,rfl,⟨dx,n,v,h1,h2,h3,_⟩,q⟩:=h;refine⟨_,(aG (aZ (iW oG (iW oG (bV bc (by rfl) T.gO aO (aa (aaO 0 rfl) aK)) (bV bc (by rfl) T.gO aO (aa (aaO 0 rfl) aK))) bx))),?_⟩;refine⟨rfl,(by assumption),T.iK,T.gP,ir,_,_,rfl,.inl (fH.of (by assumption)),rfl,(by assumption),T.iK,T.jD,j7,_,_,rfl,.inl (fH.of (by assumption)),_,_,rfl,rfl,_,_,rfl,rfl,?_⟩;rw[cA,cA];exact q
inductive acF(A:Ad)(vs:List V)(H:Hp)(Q:VK)(_:XK):Prop
 |mk (X:List Addr) (t dt nf fx:Addr) (rows:List Rh) (m:Nat) (_:vs=[.ref t]) (_:rE A X H t dt nf fx rows m) (_:∀H',rE A X H' t dt nf fx (Rc28.fitting m rows) m->gm [t,nf] H H'->Q .non H')
def Tn(F:j5 K "drop_oldest" "Table.drop_oldest" uJ f fd)(T:Txt K mg A)(jj:jQ P w K mg base "weight_of_header" dW 1 ["header"] (Nf A)):
 dR P w K mg base dW 2 f fd ["self"] (acF A):=by
 refine F.mZ (N:=["self","oldest"]) (λ_ _ _ _ H _ _ _ hr h nd0=>?_)
 . obtain⟨X,t,dt,nf,fx,rows,m,rfl,B,q⟩:=h;refine⟨_,(aG (De b8 (bF qF (aaO 0 rfl) (aaO 0 rfl) (bO _)) (ao (cB (i:=1) nd0 rfl (Or.inl rfl) (ajw bB PySem.F.slot_list_pop PySem.F.type_list_pop ajo (aaO 0 rfl)))
    (aG (aa8 0 (aU jj hr.lw (aa (pv 1) aK)) Yp))))),?_⟩
   refine⟨λk σ H2=>∃(rs:List Rh)(v:Option V),k=rs.length/\σ=[some (.ref t),v]/\rE A X H2 t dt nf fx rs m/\Rc28.fitting m rs=Rc28.fitting m rows/\gm [t,nf] H H2,
    ⟨_,rows,none,rfl,rfl,B,rfl,gm.refl⟩,?_⟩
   rintro k σ H2 ⟨rs,v,rfl,rfl,B2,hf,ho⟩;have hob:=B2.ob;obtain⟨as,hnf,hp⟩:=B2.nw;refine⟨rfl,(by assumption),T.lZ,T.qd,uI,rfl,(by assumption),T.lZ,T.qP,Ec,_,_,rfl,rfl,_,rfl,?_⟩;refine Yr (λh=>?_) (λh=>?_)
   . have h:m<tw rs:=by have:=bL h;omega
     have hne:rs≠[]:=by rintro rfl;rw[UG]at h;omega
     obtain⟨rs',hd,rfl⟩:∃rs' hd,rs=rs'++[hd]:=⟨rs.dropLast,rs.getLast hne,(jC hne).symm⟩;have jB:=fj hp;rw[aF,mQ]at jB;obtain⟨a,ha,hda⟩:=gW (i:=rs'.length) hp (show (rs'++[hd])[rs'.length]? = some hd by simp);have eas:as=as.dropLast++[a]:=by
      have hasne:as≠[]:=by rintro rfl;simp at jB
      have:as.getLast hasne=a:=by
       rw[List.getLast_eq_getElem];have:as[rs'.length]? = some a:=ha;obtain⟨_,e⟩:=bh.mp this;rw[<-e];congr 1;omega
      rw[<-this];exact(jC hasne).symm
     refine⟨λσ' H'=>∃m',m'<(rs'++[hd]).length/\∃(rs2:List Rh)(v:Option V),m'=rs2.length/\σ'=[some (.ref t),v]/\rE A X H' t dt nf fx rs2 m/\Rc28.fitting m rs2=Rc28.fitting m rows/\gm [t,nf] H H',λ_ _ z=>z,?_⟩;have ntn:t≠nf:=CT hob hnf (by intro z;cases z)
     refine⟨rfl,(by assumption),T.lZ,T.mW,pF,.inl ⟨rfl,_,fH.of (by assumption)⟩,_,_,V.ref a,rfl,rfl,hnf,?_,?_⟩
     . rw[aC,jB,show rs'.length+1-1=rs'.length by omega,bA,ha];rfl
     . have o1:gm X H2 (bM H2 nf (.cM (as.map V.ref).dropLast)):=gm.bM B2.nX;refine⟨rfl,(by rw[aM ntn];exact hob),T.lZ,T.qd,uI,_,rfl,X,a,hd,rfl,hda.iV o1,_,_,rfl,rfl,_,_,(by rw[aM ntn];exact hob),ZP,?_⟩
       rw[yV];have ew:((tw (rs'++[hd]):Nat):Int)-((Rc28.weight hd:Nat):Int)=((tw rs':Nat):Int):=by rw[aia];omega
       rw[ew];have o2:gm X H2 (bM (bM H2 nf (.cM (as.map V.ref).dropLast)) t (.ins A.Table dt (mH fx nf (tw rs':Nat) (m:Nat)))):=o1.trans (gm.bM B2.tX);have hp':Paired (sU A X H2) as.dropLast rs':=by
        rw[eas]at hp;exact P0 hp
       obtain⟨fs,hfx,hpf⟩:=B2.fi;refine⟨rs'.length,by rw[aF,mQ];omega,rs',some (.ref a),rfl,rfl,⟨aB,⟨as.dropLast,?_,bN hp' λ_ _ z=>z.iV o2⟩,⟨fs,o2 _ _ hfx B2.fX,bN hpf λ_ _ z=>z.iV o2⟩,B2.fX,B2.tX,B2.nX⟩,?_,?_⟩
       . rw[aM ntn.symm,aB,List.map_dropLast]
       . rw[<-hf,Ml rs' m hd h]
       . exact ho.trans ((gm.bM (by simp)).trans (gm.bM (by simp)))
   . have h:tw rs<=m:=by
      have:=jw (by cases z:decide ((m:Int)<((tw rs:Nat):Int)) with|false=>rfl|true=>exact absurd z h);omega
     refine q H2 ?_ ho;rw[<-hf,Px rs m h];exact B2
inductive aiz(A:Ad)(vs:List V)(H:Hp)(Q:VK)(_:XK):Prop
 |mk (X:List Addr) (t dt nf fx a:Addr) (rows:List Rh) (m:Nat) (h:Rh) (_:vs=[.ref t,.ref a]) (_:rE A X H t dt nf fx rows m) (_:sU A X H a h) (_:rows.length<100000) (_:∀H',rE A X H' t dt nf fx (Rc28.fitting m (h::rows)) m->gm [t,nf] H H'->Q .non H')
def VM(F:j5 K "put_header" "Table.put_header" vA f fd)(T:Txt K mg A)(jj:jQ P w K mg base "weight_of_header" dW 1 ["header"] (Nf A))(lL:rC P w K mg base A.Table "drop_oldest" dW 2 ["self"] (acF A)):dR P w K mg base dW 3 f fd ["self","header"] (aiz A):=by
 refine F.mZ (N:=["self","header"]) (λ_ _ _ _ H _ _ _ hr h _=>?_)
 . obtain⟨X,t,dt,nf,fx,a,rows,m,h,rfl,B,hh,jB,q⟩:=h;have hob:=B.ob;obtain⟨as,hnf,hp⟩:=B.nw;obtain⟨fs,hfx,hpf⟩:=B.fi;have ntn:t≠nf:=CT hob hnf (by intro z;cases z)
   have hl:=fj hp;refine⟨_,(ao (dz (uR bB PySem.F.slot_list_insert PySem.F.type_list_insert S9 (aaO 0 rfl) (aa bx (aa (pv 1) aK))))
    (ao (aa8 0 (aU jj hr.lw (aa (pv 1) aK)) Hh)
    (aG (dz (gU T.lZ (pv 0) lL hr.lw lU))))),?_⟩
   refine⟨rfl,(by assumption),T.lZ,T.mW,pF,.inl ⟨rfl,_,fH.of (by assumption)⟩,_,rfl,_,_,_,rfl,rfl,hnf,(by rw[aC,hl];exact bZ jB (by decide)),?_⟩
   have o1:gm X H (bM H nf (.cM (V.ref a::as.map V.ref))):=gm.bM B.nX;refine⟨rfl,(by rw[aM ntn];exact hob),T.lZ,T.qd,uI,_,rfl,X,a,h,rfl,hh.iV o1,_,_,rfl,rfl,_,_,(by rw[aM ntn];exact hob),ZP,?_⟩
   rw[yV];have ew:((tw rows:Nat):Int)+((Rc28.weight h:Nat):Int)=((tw (h::rows):Nat):Int):=by rw[FJ];omega
   rw[ew];have o2:gm X H (bM (bM H nf (.cM (V.ref a::as.map V.ref))) t (.ins A.Table dt (mH fx nf (tw (h::rows):Nat) (m:Nat)))):=o1.trans (gm.bM B.tX);have B2:rE A X (bM (bM H nf (.cM (V.ref a::as.map V.ref))) t (.ins A.Table dt (mH fx nf (tw (h::rows):Nat) (m:Nat)))) t dt nf fx (h::rows) m:=
    ⟨aB,⟨a::as,by rw[aM ntn.symm,aB];rfl,.cons (hh.iV o2) (bN hp λ_ _ z=>z.iV o2)⟩,⟨fs,o2 _ _ hfx B.fX,bN hpf λ_ _ z=>z.iV o2⟩,B.fX,B.tX,B.nX⟩
   refine⟨_,rfl,_,_,_,rfl,aB,yP,X,t,dt,nf,fx,h::rows,m,rfl,B2,λH' B' ho=>?_⟩;exact q H' B' (((gm.bM (by simp)).trans (gm.bM (by simp))).trans ho)
inductive adG(A:Ad)(vs:List V)(H:Hp)(Q:VK)(_:XK):Prop
 |mk (X:List Addr) (t dt nf fx:Addr) (rows:List Rh) (m n:Nat) (_:vs=[.ref t,.int (n:Int)]) (_:rE A X H t dt nf fx rows m) (_:∀H',rE A X H' t dt nf fx (Rc28.fitting n rows) n->gm [t,nf] H H'->Q .non H')
def QQ(F:j5 K "allow_weight" "Table.allow_weight" tO f fd)(T:Txt K mg A)(lL:rC P w K mg base A.Table "drop_oldest" dW 2 ["self"] (acF A)):
 dR P w K mg base dW 3 f fd ["self","weight"] (adG A):=by
 refine F.mZ (N:=["self","weight"]) (λ_ _ _ _ H _ _ _ hr h _=>?_)
 . obtain⟨X,t,dt,nf,fx,rows,m,n,rfl,B,q⟩:=h;have hob:=B.ob;obtain⟨as,hnf,hp⟩:=B.nw;obtain⟨fs,hfx,hpf⟩:=B.fi;have ntn:t≠nf:=CT hob hnf (by intro z;cases z)
   refine⟨_,(ao (abu 0 (pv 1) rfl)
    (aG (dz (gU T.lZ (pv 0) lL hr.lw lU)))),?_⟩
   refine⟨_,rfl,rfl,(by assumption),T.lZ,T.qP,ZP,?_⟩;rw[En];have o1:gm X H (bM H t (.ins A.Table dt (mH fx nf (tw rows:Nat) (n:Nat)))):=gm.bM B.tX;refine⟨_,rfl,_,_,_,rfl,aB,yP,X,t,dt,nf,fx,rows,n,rfl,⟨aB,⟨as,by rw[aM ntn.symm];exact hnf,bN hp λ_ _ z=>z.iV o1⟩,⟨fs,o1 _ _ hfx B.fX,bN hpf λ_ _ z=>z.iV o1⟩,B.fX,B.tX,B.nX⟩,λH' B' ho=>?_⟩
   exact q H' B' ((gm.bM (by simp)).trans ho)
inductive Uq(A:Ad)(vs:List V)(H:Hp)(Q:VK)(_:XK):Prop
 |mk (X:List Addr) (t dt nf fx:Addr) (rows:List Rh) (m n:Nat) (_:vs=[.ref t,.int (n:Int)]) (_:rE A X H t dt nf fx rows m) (_:(∀a h,(Rc28.Table.at_ ⟨m,rows⟩ n)=some h->sU A X H a h->Q (.ref a) H)) (_:((Rc28.Table.at_ ⟨m,rows⟩ n)=none->Q .non H))
def YM(F:j5 K "header_at" "Table.header_at" wk f fd)(T:Txt K mg A):dR P w K mg base dW 1 f fd ["self","number"] (Uq A):=by
 refine F.mZ (N:=["self","number","place"]) (λ_ _ _ _ _ _ Q _ _ h nd0=>?_)
 . obtain⟨X,t,dt,nf,fx,rows,m,n,rfl,B,q1,q2⟩:=h;have hob:=B.ob;obtain⟨as,hnf,hp⟩:=B.nw;obtain⟨fs,hfx,hpf⟩:=B.fi;have hlf:fs.length=61:=fj hpf;have hla:=fj hp;refine⟨_,(ao (cV (Df yR yR bx (pv 1) (bV bc (by rfl) T.gO aO (aa (aaO 0 rfl) aK))) (aG (aZ (vU pZ (aaO 0 rfl) (iW Em (pv 1) bx) (λ_ _=>rfl)))) bC)
    (ao (cB (i:=2) nd0 rfl (Or.inl rfl) (iW Em (iW Em (pv 1) (bV bc (by rfl) T.gO aO (aa (aaO 0 rfl) aK))) bx))
    (ao (cV (Df yR yS bx (pv 2) (bV bc (by rfl) T.gO aO (aa (aaO 0 rfl) aK))) (aG (aZ (vU pZ (aaO 0 rfl) (pv 2) (λ_ _=>rfl)))) bC)
    (aG (aZ yu))))),?_⟩
   have hf61:(Rc28.Table.at_ ⟨m,rows⟩ n)=if n=0 then none else if n<=61 then Rc28.FIXED[n-1]? else rows[n-62]?:=rfl
   refine ab5 (c:=decide ((1:Int)<=(n:Int))&&decide ((n:Int)<=((fs.map V.ref).length:Int))) (vN (λQ q=>q) (λQ q=>⟨_,rfl,q⟩) λQ q=>⟨rfl,hob,T.lZ,T.oF,qL,_,_,rfl,.inl (fH.of hfx),q⟩) (λh=>?_) (λh=>?_)
   . rw[aC,hlf]at h;have h:=ik.mp h;have h1:=bL h.1;have h2:=bL h.2;rw[if_neg (by omega),if_pos (by omega)]at hf61;obtain⟨hd,hhd⟩:∃hd,Rc28.FIXED[n-1]? = some hd:=⟨_,bf (show n-1<Rc28.FIXED.length by show n-1<61;omega)⟩
     obtain⟨a,ha,hda⟩:=gW hpf hhd;refine⟨rfl,(by assumption),T.lZ,T.oF,qL,_,rfl,_,_,rfl,rfl,_,_,_,V.ref a,rfl,rfl,fH.of (by assumption),jN (j:=n-1) (by omega) (by rw[bA,ha];rfl),?_⟩
     exact q1 a hd (by rw[hf61];exact hhd) hda
   . rw[aC,hlf]at h;have hn:¬(1<=n/\n<=61):=λz=>by
      rw[az (show (1:Int)<=(n:Int) by omega),az (show (n:Int)<=((61:Nat):Int) by omega)]at h
      cases h
     refine⟨_,rfl,rfl,(by assumption),T.lZ,T.oF,qL,_,_,rfl,.inl (fH.of hfx),_,_,rfl,rfl,_,_,rfl,rfl,?_⟩;dsimp only[Bp,Dq];refine ab5 (c:=decide ((0:Int)<=(n:Int)-((fs.map V.ref).length:Int)-1)&&decide ((n:Int)-((fs.map V.ref).length:Int)-1<((as.map V.ref).length:Int))) (vN (λQ q=>q) (λQ q=>⟨_,rfl,q⟩) λQ q=>⟨rfl,hob,T.lZ,T.mW,pF,_,_,rfl,.inl (fH.of hnf),q⟩) (λh=>?_) (λh=>?_)
     . rw[aC,aC,hlf,hla]at h;have h:=ik.mp h;have h1:=bL h.1;have h2:=bL h.2;rw[if_neg (by omega),if_neg (by omega)]at hf61;obtain⟨hd,hhd⟩:∃hd,rows[n-62]? = some hd:=⟨_,bf (show n-62<rows.length by omega)⟩;obtain⟨a,ha,hda⟩:=gW hp hhd;refine⟨rfl,(by assumption),T.lZ,T.mW,pF,_,rfl,_,_,_,V.ref a,rfl,rfl,fH.of (by assumption),jN (j:=n-62) (by rw[aC,hlf];omega) (by rw[bA,ha];rfl),?_⟩
       exact q1 a hd (by rw[hf61];exact hhd) hda
     . rw[aC,aC,hlf,hla]at h;refine q2 ?_;rw[hf61];by_cases h0:n=0
       . rw[if_pos h0]
       . rw[if_neg h0,if_neg (by omega)];refine km.mpr ?_;by_cases hlt:n-62<rows.length
         . rw[az (show (0:Int)<=(n:Int)-((61:Nat):Int)-1 by omega),az (show (n:Int)-((61:Nat):Int)-1<(rows.length:Int) by omega)]at h
           cases h
         . omega
def U7(X:List Addr)(H:Hp):Prop:=∀x∈X,∃o,H x=some o
def U7.out(l:U7 X H)(n:H a=none):a∉X:=λm=>by
 obtain⟨o,e⟩:=l a m;rw[n]at e;cases e
def U7.iV(l:U7 X H)(o:gm Y H H')(h:∀y∈Y,∃u,H' y=some u):U7 X H':=λx m=>by
 by_cases hy:x∈Y
 . exact h x hy
 . obtain⟨u,e⟩:=l x m;exact⟨u,o x u e hy⟩
def wN.ahA{r:Addr}(s:wN r H H'):gm [r] H H':=λc o e hc=>s c o e λz=>hc (by rw[z];simp)
def sU.ajJ{h:Rh}(x:sU A X H a h)(g:∀y∈Y,y∈X):sU A Y H a h:=x.BL λy m=>.inl (g y m)
def rE.BL{A:Ad}{X Y:List Addr}{H:Hp}{t dt nf fx:Addr}{rows:List Rh}{m:Nat}(x:rE A X H t dt nf fx rows m)(g:∀y∈Y,y∈X\/H y=none)(ht:t∈Y)(hn:nf∈Y):rE A Y H t dt nf fx rows m:=by
 obtain⟨as,h1,h2⟩:=x.nw;obtain⟨fs,h3,h4⟩:=x.fi;refine⟨x.ob,⟨as,h1,bN h2 λ_ _ z=>z.BL g⟩,⟨fs,h3,bN h4 λ_ _ z=>z.BL g⟩,λm=>?_,ht,hn⟩;rcases g _ m with z|z
 . exact x.fX z
 . rw[h3]at z;cases z
inductive Zv(A:Ad)(vs:List V)(H:Hp)(Q:VK)(E:XK):Prop
 |mk (X:List Addr) (t dt nf fx:Addr) (rows:List Rh) (m n:Nat) (_:vs=[.ref t,.int (n:Int)]) (_:rE A X H t dt nf fx rows m) (_:(∀a h,(Rc28.Table.at_ ⟨m,rows⟩ n)=some h->sU A X H a h->Q (.ref a) H)) (_:((Rc28.Table.at_ ⟨m,rows⟩ n)=none->E (.ref A.eO) none H))
def QW(F:j5 K "known_header" "known_header" Ac f fd)(T:Txt K mg A)(W:Wb mg A base)(vW:rC P w K mg base A.Table "header_at" dW 1 ["self","number"] (Uq A)):
 dR P w K mg base (Iw P w A.eO) 2 f fd ["table","number"] (Zv A):=by
 refine okX F Gd (λvs H Q E h=>?_) (λwU A' fO s H vs Q E hr h=>?_)
 . obtain⟨X,t,dt,nf,fx,rows,m,n,rfl,_⟩:=h;rfl
 . obtain⟨X,t,dt,nf,fx,rows,m,n,rfl,B,q1,q2⟩:=h;have hob:=B.ob;refine⟨_,(ao (cB (i:=2) Gd.nd rfl (Or.inl rfl) (nJ T.lZ (pv 0) vW hr.lw lU (aa (pv 1) aK)))
    (ao (cV (bF OJ (pv 2) yu (bO _)) (aG (zZ W)) bC)
    (aG (aZ (pv 2))))),?_⟩
   refine⟨_,rfl,_,_,_,rfl,(by assumption),Mt,_,rfl,X,t,dt,nf,fx,rows,m,n,rfl,B,λa h e hh=>?_,λe=>?_⟩
   . refine⟨_,rfl,rfl,_,rfl,cY ?_⟩;exact⟨_,rfl,q1 a h e hh⟩
   . refine⟨_,rfl,rfl,_,rfl,cQ ?_⟩;exact q2 e
inductive W8(A:Ad)(vs:List V)(H:Hp)(Q:VK)(E:XK):Prop
 |mk (X:List Addr) (r dx bl t dt nf fx:Addr) (b:Rb) (p bits:Nat) (rows:List Rh) (m:Nat) (_:vs=[.ref r,.ref t,.int ((2^bits-1:Nat):Int)]) (_:bits<=7) (_:DR A H r dx bl b p) (_:rE A X H t dt nf fx rows m) (_:U7 X H) (_:r∈X) (_:(∀(h:Rh)(p':Nat)(a:Addr)(H':Hp),Rc28.toldIn ⟨m,rows⟩ bits (b.drop p)=some (h,b.drop p')->p<p'->p'<=b.length->sU A X H' a h->H' r=some (rdO A dx bl p')->wN r H H'->Q (.ref a) H')) (_:(Rc28.toldIn ⟨m,rows⟩ bits (b.drop p)=none->Wr A E r H))
def Mz(F:j5 K "spelled_header" "spelled_header" xj f fd)(T:Txt K mg A)(W:Wb mg A base)(dG:rC P w K mg base A.iz "read_number" (Iw P w A.eO) 4 ["self","ones"] (wI A))(m6:rC P w K mg base A.iz "read_text" (Iw P w A.eO) 5 ["self"] (Lg A))(qj:jQ P w K mg base "known_header" (Iw P w A.eO) 2 ["table","number"] (Zv A))(mF:DQ P w K mg base "Header" A.Header 1 ["self","name","value"] (wH A)):
 dR P w K mg base (Iw P w A.eO) 6 f fd ["reader","table","ones"] (W8 A):=by
 refine okX F sO (λvs H Q E h=>?_) (λwU A' fO s H vs Q E hr h=>?_)
 . obtain⟨X,r,dx,bl,t,dt,nf,fx,b,p,bits,rows,m,rfl,_⟩:=h;rfl
 . obtain⟨X,r,dx,bl,t,dt,nf,fx,b,p,bits,rows,m,rfl,hbits,R,B,L,hrX,q1,q2⟩:=h;have hrob:=R.ob;refine⟨_,(ao (cB (i:=3) sO.nd rfl (Or.inl rfl) (nJ T.dN (pv 0) dG hr.lw xT (aa (pv 2) aK)))
    (ao (cV (bF pI (pv 3) bx (bO _)) (aG (cB (i:=4) sO.nd rfl (Or.inl rfl) (gU T.dN (pv 0) m6 hr.lw xT))) (aG (cB (i:=4) sO.nd rfl (Or.inl rfl) (aQ (xU qj hr.lw xT (aa (pv 1) (aa (pv 3) aK))) rfl))))
    (aG (aZ (qt mF hr.lw (aa (pv 4) (aa (gU T.dN (pv 0) m6 hr.lw xT) aK))))))),?_⟩
   refine⟨_,rfl,_,_,_,rfl,(by assumption),mj,_,rfl,r,dx,bl,b,p,bits,rfl,hbits,R,λn p1 hi hp1 hp1'=>?_,λhn=>q2 (by unfold Rc28.toldIn;rw[hn];rfl)⟩
   have R1:=R.bM p1;have B1:rE A X (bM H r (rdO A dx bl p1)) t dt nf fx rows m:=B.iV (Y:=[r]) wN.bM.ahA (by simp[hrX]) (by
    simp only[ak];exact CT B.ob hrob yZ) (by simp only[ak];obtain⟨as,z,_⟩:=B.nw;exact CT z hrob (by intro z;cases z))
   have told:Rc28.toldIn ⟨m,rows⟩ bits (b.drop p)=(if n=0 then Rc28.textIn (b.drop p1) else ((Rc28.Table.at_ ⟨m,rows⟩ n).map λh=>(h.1,b.drop p1))).bind λnm=>(Rc28.textIn nm.2).map λv=>((nm.1,v.1),v.2):=by
    unfold Rc28.toldIn;rw[hi];rfl
   have tail:∀(nl:Addr)(nm:Rb)(p2:Nat)(H2:Hp),H2 nl=some (.cM (bv nm))->nl∉X->DR A H2 r dx bl b p2->wN r H H2->p<p2->p2<=b.length->Rc28.toldIn ⟨m,rows⟩ bits (b.drop p)=(Rc28.textIn (b.drop p2)).map (λv=>((nm,v.1),v.2)) ->
    (Dn (Xa A.Header (wH A) [] E0 (fG (iw 4) (fG (Uy A.iz "read_text" (Lg A) [] E (iw 0) oO) oO)))) {nx:=λ_ H'=>Q .non H',rt:=Q} [some (.ref r),some (.ref t),some (.int ((2^bits-1:Nat):Int)),some (.int (n:Int)),some (.ref nl)] H2:=by
    intro nl nm p2 H2 hnl hnX R2 hb2 hp2 hp2' ht;have hr2:=R2.ob;refine⟨_,rfl,_,rfl,_,_,_,rfl,hr2,vP,r,dx,bl,b,p2,rfl,R2,λvv p3 l2 H3 htx hp3 hp3' hl2 hl2' hr3 hb3=>?_,λhn=>λH' hH'=>q2 (by rw[ht,hn];rfl) H' (hb2.trans hH')⟩
    intro x dx' hx hdx hne;refine⟨x,dx',nl,l2,rfl,aB,rfl,?_⟩;rw[jc];have nlr:nl≠r:=CT hnl hr2 (by intro z;cases z)
    have hnl3:H3 nl=some (.cM (bv nm)):=hb3 _ _ hnl nlr;have L3:U7 X H3:=L.iV (Y:=[r]) (hb2.trans hb3).ahA (by intro y hy;rw[ak.mp hy];exact⟨_,hr3⟩)
    have L2':U7 X H2:=L.iV (Y:=[r]) hb2.ahA (by intro y hy;rw[ak.mp hy];exact⟨_,hr2⟩)
    have n1:nl≠x:=aD hnl3 hx;have n2:nl≠dx':=aD hnl3 hdx;have n3:l2≠x:=aD hl2' hx;have n4:l2≠dx':=aD hl2' hdx;have n5:r≠x:=aD hr3 hx;have n6:r≠dx':=aD hr3 hdx;refine q1 (nm,vv) p3 x _ (by rw[ht,htx];rfl) (by omega) hp3' ⟨dx',nl,l2,aB,by rw[aM n1,aM n2];exact hnl3,by rw[aM n3,aM n4];exact hl2',L3.out hx,hnX,L2'.out hl2⟩ (by rw[aM n5,aM n6];exact hr3) ?_
    intro c o e hc;have e3:=hb3 c o (hb2 c o e hc) hc;rw[aM (aD e3 hx),aM (aD e3 hdx)];exact e3
   have hr1:=R1.ob;refine⟨_,rfl,rfl,_,rfl,?_⟩;have ez:decide (V.int (n:Int)=V.int 0)=decide (n=0):=by simp
   rw[ez];by_cases hn0:n=0
   . rw[az hn0];refine cQ ?_;rw[if_pos hn0]at told;refine⟨_,rfl,_,_,_,rfl,hr1,vP,r,dx,bl,b,p1,rfl,R1,λnm p2 l1 H2 htx hp2 hp2' hl1 hl1' hr2 hb2=>?_,λhn=>λH' hH'=>q2 (by rw[told,hn];rfl) H' (wN.bM.trans hH')⟩
     refine tail l1 nm p2 H2 hl1' ?_ ⟨hr2,hb2 _ _ R1.bs R1.ne⟩ (wN.bM.trans hb2) (by omega) hp2' (by rw[told,htx];rfl)
     have hl0:H l1=none:=by
      cases e:H l1 with
      |none=>rfl
      |some o=>
       have:l1≠r:=by rintro rfl;rw[aB]at hl1;cases hl1
       rw[aM this,e]at hl1;cases hl1
     exact L.out hl0
   . rw[aq hn0];refine cY ?_;rw[if_neg hn0]at told;refine⟨_,rfl,_,rfl,X,t,dt,nf,fx,rows,m,n,rfl,B1,λa h ha hh=>?_,λhn=>q2 (by rw[told,hn];rfl) _ wN.bM⟩
     obtain⟨dh,hnm,hvl,h1,h2,h3,m1,m2,m3⟩:=hh;refine⟨_,_,_,_,_,rfl,h1,T.iK,T.gP,ir,?_⟩;exact tail hnm h.1 p1 _ h2 m2 R1 wN.bM (by omega) hp1' (by rw[told,ha];rfl)
def sJ(c:UInt8)(t:Rc28.Table)(l:Rb):Option (Rh×Rc28.Table×Rb):=
 if 128<=c.toNat then (Rc28.intIn 7 l).bind λx=>(t.at_ x.1).map λh=>(h,t,x.2)
 else if 64<=c.toNat then (Rc28.toldIn t 6 l).map λx=>(x.1,t.add x.1,x.2)
 else (Rc28.toldIn t 4 l).map λx=>(x.1,t,x.2)
def akh{e:Bool}{t:Rc28.Table}{c:UInt8}{r:Rb}(h:¬(32<=c.toNat/\c.toNat<=63)):U e t (c::r)=(sJ c t (c::r)).bind λy=>(U false y.2.1 y.2.2).map λz=>(y.1::z.1,z.2):=by
 rw[abC];unfold sJ;by_cases h1:128<=c.toNat
 . rw[if_pos h1,if_pos h1]
   cases Rc28.intIn 7 (c::r) with
   |none=>rfl
   |some x=>simp only[Option.bind_some];cases t.at_ x.1<;>rfl
 . rw[if_neg h1,if_neg h1];by_cases h2:64<=c.toNat
   . rw[if_pos h2,if_pos h2]
     cases Rc28.toldIn t 6 (c::r)<;>rfl
   . rw[if_neg h2,if_neg h2,if_neg (by omega)]
     cases Rc28.toldIn t 4 (c::r)<;>rfl
def rE.ner{t dt nf fx r bl:Addr}{rows:List Rh}(B:rE A X H t dt nf fx rows m)(R:DR A H r dx bl b p):t≠r/\nf≠r:=by
 obtain⟨as,z,_⟩:=B.nw;exact⟨CT B.ob R.ob yZ,CT z R.ob (by intro z;cases z)⟩
def rE.but{t dt nf fx r bl:Addr}{rows:List Rh}(B:rE A X H t dt nf fx rows m)(R:DR A H r dx bl b p)(hrX:r∈X)(o:wN r H H'):rE A X H' t dt nf fx rows m:=
 B.iV (Y:=[r]) o.ahA (by simp[hrX]) (by simp only[ak];exact(B.ner R).1) (by simp only[ak];exact(B.ner R).2)
inductive abh(A:Ad)(vs:List V)(H:Hp)(Q:VK)(E:XK):Prop
 |mk (X:List Addr) (r dx bl t dt nf fx:Addr) (b:Rb) (p:Nat) (rows:List Rh) (m:Nat) (_:vs=[.ref r,.ref t]) (_:DR A H r dx bl b p) (_:rE A X H t dt nf fx rows m) (_:r∈X) (_:(∀(n p':Nat)(H':Hp),Rc28.intIn 5 (b.drop p)=some (n,b.drop p')->n<=4096->p<p'->p'<=b.length->rE A X H' t dt nf fx (Rc28.fitting n rows) n->H' r=some (rdO A dx bl p')->gm [r,t,nf] H H'->Q .non H')) (_:((∀x,Rc28.intIn 5 (b.drop p)=some x->4096<x.1)->Wr A E r H))
def Q3(F:j5 K "resize_table" "resize_table" Ah f fd)(T:Txt K mg A)(W:Wb mg A base)(dG:rC P w K mg base A.iz "read_number" (Iw P w A.eO) 4 ["self","ones"] (wI A))(sW:rC P w K mg base A.Table "allow_weight" dW 3 ["self","weight"] (adG A)):
 dR P w K mg base (Iw P w A.eO) 5 f fd ["reader","table"] (abh A):=by
 refine okX F Ge (λvs H Q E h=>?_) (λwU A' fO s H vs Q E hr h=>?_)
 . obtain⟨X,r,dx,bl,t,dt,nf,fx,b,p,rows,m,rfl,_⟩:=h;rfl
 . obtain⟨X,r,dx,bl,t,dt,nf,fx,b,p,rows,m,rfl,R,B,hrX,q1,q2⟩:=h;have hrob:=R.ob;refine⟨_,(ao (cB (i:=2) Ge.nd rfl (Or.inl rfl) (nJ T.dN (pv 0) dG hr.lw xT (aa (cR T.aaw) aK)))
    (ao (cV (bF qF (pv 2) (cR T.Pq) (bO _)) (aG (zZ W)) bC)
    (aG (dz (nJ T.lZ (pv 1) sW hr.lw lU (aa (pv 2) aK)))))),?_⟩
   refine⟨_,rfl,_,_,_,rfl,(by assumption),mj,r,dx,bl,b,p,5,rfl,by decide,R,λn p1 hi hp1 hp1'=>?_,λhn=>q2 (λx hx=>by rw[hn]at hx;cases hx)⟩
   have B1:=B.but R hrX (wN.bM (o:=rdO A dx bl p1));have hb1:=B1.ob;refine⟨_,rfl,_,_,rfl,rfl,_,rfl,?_⟩;refine Yr (λh=>?_) (λh=>?_)
   . have h:4096<n:=by have:=bL h;omega
     exact q2 (λx hx=>by rw[hi]at hx;cases hx;exact h) _ wN.bM
   . have h:n<=4096:=by
      have:=jw (by cases z:decide ((4096:Int)<(n:Int)) with|false=>rfl|true=>exact absurd z h);omega
     refine⟨_,rfl,_,_,_,rfl,(by assumption),Hj,_,rfl,X,t,dt,nf,fx,rows,m,n,rfl,B1,λH' B' ho=>?_⟩;have hne:=B.ner R;refine q1 n p1 H' hi h hp1 hp1' B' (ho _ _ aB (by simp[hne.1.symm,hne.2.symm])) (wN.bM.iV (by simp) |>.trans (ho.mono (by simp)))
inductive Il(A:Ad)(vs:List V)(H:Hp)(Q:VK)(E:XK):Prop
 |mk (X:List Addr) (r dx bl t dt nf fx:Addr) (b:Rb) (p:Nat) (rows:List Rh) (m:Nat) (c:UInt8) (_:vs=[.ref r,.ref t,.int (c.toNat:Int)]) (_:DR A H r dx bl b p) (_:rE A X H t dt nf fx rows m) (_:U7 X H) (_:r∈X) (_:b[p]? = some c) (_:rows.length<100000) (_:(∀(h:Rh)(T':Rc28.Table)(p':Nat)(a:Addr)(H':Hp),sJ c ⟨m,rows⟩ (b.drop p)=some (h,T',b.drop p')->p<p'->p'<=b.length->sU A X H' a h->rE A X H' t dt nf fx T'.rows T'.most->H' r=some (rdO A dx bl p')->gm [r,t,nf] H H'->Q (.ref a) H')) (_:(sJ c ⟨m,rows⟩ (b.drop p)=none->Wr A E r H))
def Oz(F:j5 K "unpack_header" "unpack_header" yM f fd)(T:Txt K mg A)(dG:rC P w K mg base A.iz "read_number" (Iw P w A.eO) 4 ["self","ones"] (wI A))(qj:jQ P w K mg base "known_header" (Iw P w A.eO) 2 ["table","number"] (Zv A))(uo:jQ P w K mg base "spelled_header" (Iw P w A.eO) 6 ["reader","table","ones"] (W8 A))(u0:rC P w K mg base A.Table "put_header" dW 3 ["self","header"] (aiz A)):
 dR P w K mg base (Iw P w A.eO) 7 f fd ["reader","table","first"] (Il A):=by
 refine okX F Dl (λvs H Q E h=>?_) (λwU A' fO s H vs Q E hr h=>?_)
 . obtain⟨X,r,dx,bl,t,dt,nf,fx,b,p,rows,m,c,rfl,_⟩:=h;rfl
 . obtain⟨X,r,dx,bl,t,dt,nf,fx,b,p,rows,m,c,rfl,R,B,L,hrX,hc,jB,q1,q2⟩:=h;have hrob:=R.ob;have hne:=B.ner R;refine⟨_,(ao (cV (bF TJ (pv 2) bx (bO _)) (aG (aZ (xU qj hr.lw xT (aa (pv 1) (aa (nJ T.dN (pv 0) dG hr.lw xT (aa (cR T.v7) aK)) aK))))) bC)
    (ao (cV (bF TJ (pv 2) bx (bO _)) (ao (cB (i:=3) Dl.nd rfl (Or.inl rfl) (xU uo hr.lw xT (aa (pv 0) (aa (pv 1) (aa (cR T.abP) aK)))))
    (ao (dz (nJ T.lZ (pv 1) u0 hr.lw lU (aa (pv 3) aK)))
    (aG (aZ (pv 3))))) bC)
    (aG (aZ (xU uo hr.lw xT (aa (pv 0) (aa (pv 1) (aa (cR T.Pn) aK)))))))),?_⟩
   refine⟨_,rfl,_,_,rfl,rfl,_,rfl,?_⟩;refine Yr (λh=>?_) (λh=>?_)
   . have h:128<=c.toNat:=by have:=bL h;omega
     have hst:sJ c ⟨m,rows⟩ (b.drop p)=(Rc28.intIn 7 (b.drop p)).bind λx=>((⟨m,rows⟩:Rc28.Table).at_ x.1).map λh=>(h,⟨m,rows⟩,x.2):=by unfold sJ;rw[if_pos h]
     refine⟨_,rfl,_,rfl,_,_,_,rfl,(by assumption),mj,r,dx,bl,b,p,7,rfl,by decide,R,λn p1 hi hp1 hp1'=>?_,λhn=>q2 (by rw[hst,hn];rfl)⟩
     rw[hi]at hst;have B1:=B.but R hrX (wN.bM (o:=rdO A dx bl p1));refine⟨X,t,dt,nf,fx,rows,m,n,rfl,B1,λa h ha hh=>?_,λhn=>q2 (by rw[hst];show Option.map _ ((⟨m,rows⟩:Rc28.Table).at_ n)=_;rw[hn];rfl) _ wN.bM⟩
     exact q1 h ⟨m,rows⟩ p1 a _ (by rw[hst];show Option.map _ ((⟨m,rows⟩:Rc28.Table).at_ n)=_;rw[ha];rfl) hp1 hp1' hh B1 aB (wN.bM.iV (by simp))
   . have h:¬128<=c.toNat:=λz=>h (az (by omega));refine⟨_,rfl,_,_,rfl,rfl,_,rfl,?_⟩;refine Yr (λh2=>?_) (λh2=>?_)
     . have h2:64<=c.toNat:=by have:=bL h2;omega
       have hst:sJ c ⟨m,rows⟩ (b.drop p)=(Rc28.toldIn ⟨m,rows⟩ 6 (b.drop p)).map λx=>(x.1,(⟨m,rows⟩:Rc28.Table).add x.1,x.2):=by unfold sJ;rw[if_neg h,if_pos h2]
       refine⟨_,rfl,_,rfl,X,r,dx,bl,t,dt,nf,fx,b,p,6,rows,m,rfl,by decide,R,B,L,hrX,λhd p1 a H1 hi hp1 hp1' hh hr1 hb1=>?_,λhn=>q2 (by rw[hst,hn];rfl)⟩
       have B1:=B.but R hrX hb1;have hb1':=B1.ob;refine⟨_,rfl,_,_,_,rfl,(by assumption),Kw,_,rfl,X,t,dt,nf,fx,a,rows,m,hd,rfl,B1,hh,jB,λH' B' ho=>?_⟩;refine⟨_,rfl,?_⟩;have oX:gm X H1 H':=ho.mono (by intro y hy;rcases aJ.mp hy with rfl|hy;exact B.tX;rw[ak.mp hy];exact B.nX)
       exact q1 hd ((⟨m,rows⟩:Rc28.Table).add hd) p1 a H' (by rw[hst,hi];rfl) hp1 hp1' (hh.iV oX) B' (ho _ _ hr1 (by simp[hne.1.symm,hne.2.symm])) ((hb1.iV (by simp)).trans (ho.mono (by simp)))
     . have h2:¬64<=c.toNat:=λz=>h2 (az (by omega));have hst:sJ c ⟨m,rows⟩ (b.drop p)=(Rc28.toldIn ⟨m,rows⟩ 4 (b.drop p)).map λx=>(x.1,⟨m,rows⟩,x.2):=by unfold sJ;rw[if_neg h,if_neg h2]
       refine⟨_,rfl,_,rfl,X,r,dx,bl,t,dt,nf,fx,b,p,4,rows,m,rfl,by decide,R,B,L,hrX,λhd p1 a H1 hi hp1 hp1' hh hr1 hb1=>?_,λhn=>q2 (by rw[hst,hn];rfl)⟩
       exact q1 hd ⟨m,rows⟩ p1 a H1 (by rw[hst,hi];rfl) hp1 hp1' hh (B.but R hrX hb1) hr1 (hb1.iV (by simp))
theorem agK:∀l:List Rh,32*l.length<=tw l
 |[]=>by simp[UG]
 |h::r=>by
  have:=agK r;rw[FJ,bj];unfold Rc28.weight;omega
def Wh.len{t:Rc28.Table}(T:Wh t):t.rows.length<=128:=by
 have:=agK t.rows;have:=T.most;have:=T.fit;omega
def ab3{c:UInt8}{t t':Rc28.Table}{l l':Rb}{h:Rh}(T:Wh t)(e:sJ c t l=some (h,t',l')):Wh t':=by
 unfold sJ at e;split at e
 . cases e1:Rc28.intIn 7 l with
   |none=>rw[e1]at e;cases e
   |some x=>
    rw[e1]at e;simp only[Option.bind_some]at e
    cases e2:t.at_ x.1 with
    |none=>rw[e2]at e;cases e
    |some y=>rw[e2]at e;cases e;exact T
 . split at e
   . cases e1:Rc28.toldIn t 6 l with
     |none=>rw[e1]at e;cases e
     |some x=>rw[e1]at e;cases e;exact T.add _
   . cases e1:Rc28.toldIn t 4 l with
     |none=>rw[e1]at e;cases e
     |some x=>rw[e1]at e;cases e;exact T
def aiJ{e:Bool}{t:Rc28.Table}{c:UInt8}{r:Rb}(h1:32<=c.toNat)(h2:c.toNat<=63):U e t (c::r)=(Rc28.intIn 5 (c::r)).bind λx=>if e=true/\x.1<=4096 then U true {most:=x.1,rows:=Rc28.fitting x.1 t.rows} x.2 else none:=by
 rw[abC,if_neg (by omega),if_neg (by omega),if_pos h1]
inductive M9(A:Ad)(vs:List V)(H:Hp)(Q:VK)(_:XK):Prop
 |mk (p dx bl:Addr) (_:vs=[.ref p,.ref bl]) (_:H p=some (.ins A.iz dx [])) (_:Q .non (bM H p (rdO A dx bl 0)))
def Jv(F:j5 K "__init__" "BlockReader.__init__" vy f fd)(T:Txt K mg A):dR P w K mg base dW 1 f fd ["self","block"] (M9 A):=by
 refine F.mZ (N:=["self","block"]) (λ_ _ _ _ _ _ _ _ _ h _=>?_)
 . obtain⟨p,dx,bl,rfl,hp,q⟩:=h;refine⟨_,(ao (abu 0 (pv 1) rfl) (aG (abu 0 bx rfl))),?_⟩;refine⟨_,rfl,rfl,(by assumption),T.dN,T.nH,(by show 0<1000;decide),?_⟩
   refine⟨rfl,aB,T.dN,T.jR,(by show 1<1000;decide),?_⟩
   rw[jc,Vr];exact q
inductive oR(A:Ad)(X:List Addr)(H:Hp)(l:Addr)(hs:List Rh):Prop
 |mk (as:_) (_:H l=some (.cM (as.map V.ref))) (_:Paired (sU A X H) as hs)
inductive Uw(A:Ad)(vs:List V)(H:Hp)(Q:VK)(E:XK):Prop
 |mk (X:List Addr) (bl t dt nf fx:Addr) (b:Rb) (Tb:Rc28.Table) (_:vs=[.ref bl,.ref t]) (_:H bl=some (.cM (bv b))) (_:b.length<=100000) (_:rE A X H t dt nf fx Tb.rows Tb.most) (_:Wh Tb) (_:U7 X H) (_:bl∉X) (_:(∀(hs:List Rh)(T':Rc28.Table)(l:Addr)(H':Hp),U true Tb b=some (hs,T')->rE A X H' t dt nf fx T'.rows T'.most->H l=none->oR A (l::X) H' l hs->gm [t,nf] H H'->Q (.ref l) H')) (_:(U true Tb b=none->∀H',gm [t,nf] H H'->E (.ref A.eO) none H'))
def aeE(F:j5 K "unpack" "unpack" Ud f fd)(T:Txt K mg A)(W:Wb mg A base)(uZ:DQ P w K mg base "BlockReader" A.iz 1 ["self","block"] (M9 A))(kW:rC P w K mg base A.iz "at_end" dW 1 ["self"] (Zr A))(fB:rC P w K mg base A.iz "look_at_byte" (Iw P w A.eO) 2 ["self"] (Zw A))(zG:jQ P w K mg base "resize_table" (Iw P w A.eO) 5 ["reader","table"] (abh A))(yl:jQ P w K mg base "unpack_header" (Iw P w A.eO) 7 ["reader","table","first"] (Il A)):
 dR P w K mg base (Iw P w A.eO) 8 f fd ["block","table"] (Uw A):=by
 refine okX F Jd (λvs H Q E h=>?_) (λwU A' fO s H vs Q E hr h=>?_)
 . obtain⟨X,bl,t,dt,nf,fx,b,Tb,rfl,_⟩:=h;rfl
 . obtain⟨X,bl,t,dt,nf,fx,b,Tb,rfl,hbl,hblen,B,hTok,L,hblX,q1,q2⟩:=h;refine⟨_,(ao (cB (i:=2) Jd.nd rfl (Or.inl rfl) (qt uZ hr.lw (aa (pv 0) aK)))
    (ao (cB (i:=3) Jd.nd rfl (Or.inl rfl) (jT aK))
    (ao (De PassesOwn.leaving (rY (iB (gU T.dN (pv 2) kW hr.lw lU))) (ao (cB (i:=4) Jd.nd rfl (Or.inl rfl) (gU T.dN (pv 2) fB hr.lw xT))
    (aG (cV (Df yR yR bx (pv 4) bx) (ao (cV (bF qF (bV bc (by rfl) T.gO aO (aa (pv 3) aK)) bx (bO _)) (aG (zZ W)) bC)
    (aG (dz (xU zG hr.lw xT (aa (pv 2) (aa (pv 1) aK)))))) (aG (dz (uR bB fQ fV vQ (pv 3) (aa (xU yl hr.lw xT (aa (pv 2) (aa (pv 1) (aa (pv 4) aK)))) aK))))))))
    (aG (aZ (pv 3)))))),?_⟩
   refine⟨_,rfl,?_⟩;intro r dx hr0 hdx hne;refine⟨r,dx,bl,rfl,aB,rfl,?_⟩;rw[jc];refine⟨(by decide),λl hl=>?_⟩;have hlr:l≠r:=by rintro rfl;rw[aB]at hl;cases hl
   have hldx:l≠dx:=by rintro rfl;rw[aM hlr,aB]at hl;cases hl
   have hl0:H l=none:=by rw[aM hlr,aM hldx]at hl;exact hl
   have s0:cZ H (bM (bM (bM H dx (.own r)) r (rdO A dx bl 0)) l (.cM [])):=λc o e=>by
    rw[aM (aD e hl0),aM (aD e hr0),aM (aD e hdx)];exact e
   generalize hH0:bM (bM (bM H dx (.own r)) r (rdO A dx bl 0)) l (.cM [])=H0 at s0 ⊢;have hR0:DR A H0 r dx bl b 0:=⟨by rw[<-hH0,aM hlr.symm,aB],s0 _ _ hbl⟩;have hl1:H0 l=some (.cM []):=by rw[<-hH0,aB]
   have g0:∀y∈r::l::X,y∈X\/H y=none:=by
    intro y hy;rcases aJ.mp hy with rfl|hy
    . exact .inr hr0
    . rcases aJ.mp hy with rfl|hy
      . exact .inr hl0
      . exact .inl hy
   have B0:rE A (r::l::X) H0 t dt nf fx Tb.rows Tb.most:=(B.BL g0 (by simp[B.tX]) (by simp[B.nX])).iV (Y:=[]) (λc o e _=>s0 c o e) (by simp) (by simp) (by simp);have L0:U7 (r::l::X) H0:=λy hy=>by
    rcases aJ.mp hy with rfl|hy
    . exact⟨_,hR0.ob⟩
    . rcases aJ.mp hy with rfl|hy
      . exact⟨_,hl1⟩
      . obtain⟨o,e⟩:=L y hy;exact⟨o,s0 _ _ e⟩
   refine⟨λk σ H2=>∃(hs:List Rh)(T2:Rc28.Table)(as:List Addr)(p:Nat)(v4:Option V),k=b.length-p/\p<=b.length/\hs.length<=p/\σ=[some (.ref bl),some (.ref t),some (.ref r),some (.ref l),v4]/\DR A H2 r dx bl b p /\
    rE A (r::l::X) H2 t dt nf fx T2.rows T2.most/\Wh T2/\U7 (r::l::X) H2/\H2 l=some (.cM (as.map V.ref))/\Paired (sU A (r::l::X) H2) as hs/\U true Tb b=(U hs.isEmpty T2 (b.drop p)).map (λy=>(hs++y.1,y.2))/\gm [t,nf] H H2,
    ⟨_,[],Tb,[],0,none,rfl,bW _,aH _,rfl,hR0,B0,hTok,L0,hl1,.nil,?_,λc o e _=>s0 c o e⟩,?_⟩
   . rw[lH];show U true Tb b=(U true Tb b).map λy=>([]++y.1,y.2)
     cases U true Tb b<;>rfl
   rintro k σ H2 ⟨hs,T2,as,p,v4,rfl,hp,hhp,rfl,R2,B2,hT2,L2',hl2,hpa,hU,ho⟩;have hr2:=R2.ob;have hne2:=B2.ner R2;have hln:l≠nf:=by
    obtain⟨o,e⟩:=L nf B.nX;exact(aD e hl0).symm
   have hlt:l≠t:=CT hl2 B2.ob (by intro z;cases z)
   refine⟨_,rfl,_,_,_,rfl,(by assumption),xQ,r,dx,bl,b,p,rfl,R2,_,rfl,?_⟩;have wr:∀H',gm [r,l,t,nf] H2 H'->gm [t,nf] H H':=λH' o c u e hc=>by
    have h1:=ho c u e hc;refine o c u h1 ?_;simp only[aJ,cX,or_false,not_or]at hc ⊢;exact⟨aD e hr0,aD e hl0,hc⟩
   by_cases hend:b.length<=p
   . rw[az hend];refine cY ?_;have hd:b.drop p=[]:=eU hend;rw[hd,ae2]at hU;refine⟨_,rfl,?_⟩;refine q1 hs T2 l H2 (by rw[hU];show some (hs++[],T2)=_;rw[eQ]) (B2.BL (λy m=>.inl (by simp[m])) B.tX B.nX) hl0 ⟨as,hl2,bN hpa λ_ _ z=>z.ajJ (by intro y hy;simp only[aJ]at hy ⊢;exact .inr hy)⟩ ho
   . rw[aq hend];refine cQ ?_;have hp':p<b.length:=by omega
     refine⟨λσ' H'=>∃m',m'<b.length-p/\∃(hs:List Rh)(T2:Rc28.Table)(as:List Addr)(p:Nat)(v4:Option V),m'=b.length-p/\p<=b.length/\hs.length<=p/\σ'=[some (.ref bl),some (.ref t),some (.ref r),some (.ref l),v4]/\DR A H' r dx bl b p /\
      rE A (r::l::X) H' t dt nf fx T2.rows T2.most/\Wh T2/\U7 (r::l::X) H'/\H' l=some (.cM (as.map V.ref))/\Paired (sU A (r::l::X) H') as hs/\U true Tb b=(U hs.isEmpty T2 (b.drop p)).map (λy=>(hs++y.1,y.2))/\gm [t,nf] H H',λ_ _ z=>z,?_⟩
     refine⟨_,rfl,_,_,_,rfl,(by assumption),oE,r,dx,bl,b,p,rfl,R2,λc hc=>?_,λhn=>absurd (km.mp hn) hend⟩;have hd:=IW hc;dsimp only[Bp,Dq];refine ab5 (c:=decide ((32:Int)<=(c.toNat:Int))&&decide ((c.toNat:Int)<=63)) (vN (λQ q=>q) (λQ q=>⟨_,rfl,q⟩) (λQ q=>q)) (λh=>?_) (λh=>?_)
     . have h:=ik.mp h;have h1:32<=c.toNat:=by have:=bL h.1;omega
       have h2:c.toNat<=63:=by have:=bL h.2;omega
       have hUs:U hs.isEmpty T2 (b.drop p)=(Rc28.intIn 5 (b.drop p)).bind λx=>if hs.isEmpty=true/\x.1<=4096 then U true {most:=x.1,rows:=Rc28.fitting x.1 T2.rows} x.2 else none:=by rw[hd];exact aiJ h1 h2
       have hlas:=fj hpa;refine⟨_,rfl,_,_,rfl,.inl (fH.of hl2),_,_,rfl,rfl,_,rfl,?_⟩;rw[aC,hlas];by_cases hz:hs.length=0
       . have hnil:hs=[]:=lJ hz;subst hnil;refine cY ?_;refine⟨_,rfl,_,rfl,r::l::X,r,dx,bl,t,dt,nf,fx,b,p,T2.rows,T2.most,rfl,R2,B2,by simp,λn p1 H' hi hn hp1 hp1' B' hr' ho'=>?_,λhn=>λH' hH'=>q2 ?_ H' (wr H' (hH'.iV (by simp)))⟩
         . have hl':H' l=some (.cM (as.map V.ref)):=ho' _ _ hl2 (by simp[hlr,hlt,hln]);have has:as=[]:=lJ (by rw[hlas];rfl)
           subst has;refine⟨b.length-p1,by omega,[],⟨n,Rc28.fitting n T2.rows⟩,[],p1,some (.int (c.toNat:Int)),rfl,hp1',bW _,rfl,⟨hr',ho' _ _ R2.bs ?_⟩,B',⟨hn,Bo _ _⟩,L2'.iV ho' ?_,hl',.nil,?_,wr H' (ho'.mono (by simp))⟩
           . have hb1:bl≠nf:=by rintro rfl;exact hblX B.nX
             have hb2:bl≠t:=by rintro rfl;exact hblX B.tX
             simp[R2.ne,hb1,hb2]
           . intro y hy;simp only[aJ,cX,or_false]at hy;rcases hy with rfl|rfl|rfl
             . exact⟨_,hr'⟩
             . exact⟨_,B'.ob⟩
             . obtain⟨z,hz',_⟩:=B'.nw;exact⟨_,hz'⟩
           . rw[hU,hUs,hi];show Option.map _ (if ([]:List Rh).isEmpty=true/\n<=4096 then _ else _)=_
             rw[if_pos ⟨rfl,hn⟩];rfl
         . rw[hU,hUs]
           cases hx:Rc28.intIn 5 (b.drop p) with
           |none=>rfl
           |some x=>
            show Option.map _ (if ([]:List Rh).isEmpty=true/\x.1<=4096 then _ else _)=_
            rw[if_neg (λz=>by have:=hn x hx;omega)]
            rfl
       . have hpos:decide ((0:Int)<(hs.length:Int))=true:=az (by omega);rw[hpos];refine cQ ?_;refine q2 ?_ H2 ho;rw[hU,hUs];have hne':hs.isEmpty=false:=by cases hs with|nil=>simp at hz|cons _ _=>rfl
         cases hx:Rc28.intIn 5 (b.drop p) with
         |none=>rfl
         |some x=>
          show Option.map _ (if hs.isEmpty=true/\x.1<=4096 then _ else _)=_
          rw[hne',if_neg (λz=>by cases z.1)];rfl
     . have h32:¬(32<=c.toNat/\c.toNat<=63):=λz=>by
        rw[az (show (32:Int)<=(c.toNat:Int) by omega),az (show (c.toNat:Int)<=63 by omega)]at h
        cases h
       have hUh:U hs.isEmpty T2 (b.drop p)=(sJ c T2 (b.drop p)).bind λy=>(U false y.2.1 y.2.2).map λz=>(y.1::z.1,z.2):=by rw[hd];exact akh h32
       have jB:=hT2.len;refine⟨_,rfl,.inl ⟨rfl,_,fH.of hl2⟩,_,rfl,_,rfl,_,rfl,r::l::X,r,dx,bl,t,dt,nf,fx,b,p,T2.rows,T2.most,c,rfl,R2,B2,L2',by simp,hc,by omega,λhd' T3 p1 a H' hst hp1 hp1' hh B' hr' ho'=>?_,λhn=>λH' hH'=>q2 ?_ H' (wr H' (hH'.iV (by simp)))⟩
       . have hl':H' l=some (.cM (as.map V.ref)):=ho' _ _ hl2 (by simp[hlr,hlt,hln]);have hlas:=fj hpa;have oX:gm (r::l::X) H2 H':=ho'.mono (by
          intro y hy;simp only[aJ,cX,or_false]at hy;rcases hy with rfl|rfl|rfl
          . simp
          . exact B2.tX
          . exact B2.nX)
         refine⟨_,_,_,rfl,rfl,hl',?_,?_⟩
         . rw[aC,hlas];exact iQ (cG hhp (by omega:p<=100000)) (by decide)
         . have oL:gm (r::l::X) H' (bM H' l (.cM (as.map V.ref++[V.ref a]))):=gm.bM (by simp);have ntl:t≠l:=hlt.symm;have nfl:nf≠l:=hln.symm;refine⟨b.length-p1,by omega,hs++[hd'],T3,as++[a],p1,some (.int (c.toNat:Int)),rfl,hp1',by rw[aF,mQ];omega,rfl,⟨by rw[aM hlr.symm];exact hr',?_⟩,?_,ab3 hT2 hst,?_,?_,?_,?_,?_⟩
           . have hb1:bl≠nf:=by rintro rfl;exact hblX B.nX
             have hb2:bl≠t:=by rintro rfl;exact hblX B.tX
             have hb3:bl≠l:=aD hbl hl0;rw[aM hb3];exact ho' _ _ R2.bs (by simp[R2.ne,hb1,hb2])
           . exact B'.iV (Y:=[l]) (gm.bM (by simp)) (by simp) (by simp[ntl]) (by simp[nfl])
           . refine(L2'.iV ho' ?_).iV (Y:=[l]) (gm.bM (by simp)) (by intro y hy;rw[ak.mp hy];exact⟨_,aB⟩)
             intro y hy;simp only[aJ,cX,or_false]at hy;rcases hy with rfl|rfl|rfl
             . exact⟨_,hr'⟩
             . exact⟨_,B'.ob⟩
             . obtain⟨z,hz',_⟩:=B'.nw;exact⟨_,hz'⟩
           . rw[aB,dm];rfl
           . exact Paired.snoc (bN hpa λ_ _ z=>(z.iV oX).iV oL) (hh.iV oL)
           . rw[hU,hUh,hst];show Option.map _ (Option.map _ (U false T3 (b.drop p1)))=Option.map _ (U (hs++[hd']).isEmpty T3 (b.drop p1))
             have he:(hs++[hd']).isEmpty=false:=by cases hs<;>rfl
             rw[he,Option.map_map];congr 1;funext y;show (hs++hd'::y.1,y.2)=(hs++[hd']++y.1,y.2)
             rw[iC];rfl
           . refine wr _ ((ho'.mono ?_).trans (gm.bM (by simp)));intro y hy;simp only[aJ,cX,or_false]at hy ⊢;rcases hy with rfl|rfl|rfl<;>simp
       . rw[hU,hUh];have hn:sJ c T2 (b.drop p)=none:=hn;rw[hn];rfl
def BW{as:List Addr}{y:V}(h:(as.map V.ref)[i]? = some y):∃a,as[i]? = some a/\y=.ref a:=by
 rw[bA]at h
 cases e:as[i]? with
 |none=>rw[e]at h;cases h
 |some c=>rw[e]at h;exact⟨c,rfl,(cz h).symm⟩
inductive Je(A:Ad)(vs:List V)(H:Hp)(Q:VK)(_:XK):Prop
 |mk (X:List Addr) (l:Addr) (hs:List Rh) (_:vs=[.ref l]) (_:oR A X H l hs) (_:hs.length<=100000) (_:∀H',cZ H H'->Q (.int (tw hs:Nat)) H')
def Ht(F:j5 K "weight_of_headers" "weight_of_headers" uN f fd)(T:Txt K mg A)(jj:jQ P w K mg base "weight_of_header" dW 1 ["header"] (Nf A)):
 dR P w K mg base dW 2 f fd ["headers"] (Je A):=by
 refine F.mZ (N:=["headers","header"]) (λ_ _ _ _ H _ _ _ hr h nd0=>?_)
 . obtain⟨X,l,hs,rfl,⟨as,hl,hp⟩,jB,q⟩:=h;refine⟨_,(aG (aZ (bV (aiW rfl) (by rfl) T.akm PyProof.Rows.Boot.«sum» (aa (T4 rfl nd0 (zp (pv 0)) (xN (own:=[("header",1)]) (by kernel_rfl)) (λ_ _ _ _ _=>jY (i:=1) nd0 rfl (Or.inl rfl)) (λ_ _ _ _ _=>Br)
    (λ_ _ _ _ _=>aU jj hr.lw (aa (pv 1) aK))) aK)))),?_⟩
   have hla:=fj hp;refine⟨_,rfl,l,rfl,⟨_,fH.of hl⟩,λD hD=>Rq (K:=K) (a:=l) (xs:=as.map V.ref) (λi H2=>cZ H H2/\H2 D=some (.cM ((hs.take i).map λh=>V.int (Rc28.weight h:Nat)))) ⟨λc o e=>by rw[aM (aD e hD)];exact e,aB⟩ (λi H2 _ z=>fH.of (z.1 _ _ hl)) ?_ ?_⟩
   . rintro i y H2 hi ⟨sm,hD2⟩;obtain⟨a,ha,rfl⟩:=BW hi;have hi2:i<hs.length:=by have:=(bh.mp ha).1;omega
     obtain⟨h,hh⟩:∃h,hs[i]? = some h:=⟨_,bf hi2⟩;obtain⟨a',ha',hd⟩:=gW hp hh;obtain rfl:a'=a:=cz (ha'.symm.trans ha);refine⟨rfl,_,rfl,X,a',h,rfl,hd.iV (cZ.iV sm),_,hD2,?_,λc o e=>?_,?_⟩
     . rw[aC,aY];exact iQ (cG (jr _ _) jB) (by decide)
     . rw[aM (aD e hD)];exact sm c o e
     . rw[aB,pq hh,dm];rfl
   . rintro H2 ⟨sm,hD2⟩;rw[aC,hla,gh]at hD2;refine⟨D,hs.map λh=>((Rc28.weight h:Nat):Int),rfl,fH.of (by rw[gH];exact hD2),?_⟩
     have e:(hs.map λh=>((Rc28.weight h:Nat):Int)).sum=((tw hs:Nat):Int):=by
      unfold tw;clear hD2 hla jB hp q;induction hs with
      |nil=>rfl
      |cons a r ih=>rw[bG,jq,ih,bG,jq];omega
     rw[e];exact q H2 sm
inductive Li(vs:List V)(H:Hp)(Q:VK)(_:XK):Prop
 |mk (x:Str) (b:Rb) (_:vs=[.str x]) (_:b.map (·.toNat)=x.cps.toList) (_:b.length<=1000) (_:∀(p:Addr)(H':Hp),H p=none->H' p=some (.cM (bv b))->cZ H H'->Q (.ref p) H')
def Ol(F:j5 K "bytes_of_text" "bytes_of_text" yD f fd)(T:Txt K mg A):dR P w K mg base dW 1 f fd ["text"] Li:=by
 refine F.mZ (N:=["text","sign"]) (λ_ _ _ _ H _ _ _ _ h nd0=>?_)
 . obtain⟨x,b,rfl,hx,jB,q⟩:=h;refine⟨_,(aG (aZ (T4 rfl nd0 (ajy (pv 0)) (xN (own:=[("sign",1)]) (by kernel_rfl)) (λ_ _ _ _ _=>jY (i:=1) nd0 rfl (Or.inl rfl)) (λ_ _ _ _ _=>Br)
    (λ_ _ _ _ _=>bV afh (by rfl) T.akk PyProof.Rows.Boot.«ord» (aa (pv 1) aK))))),?_⟩
   have hsz:x.cps.size=b.length:=by rw[<-cW,<-hx,aC]
   refine⟨_,rfl,x,rfl,λD hD=>?_⟩;refine⟨λi m H2=>m=b.length-i/\i<=b.length/\cZ H H2/\H2 D=some (.cM (bv (b.take i))),⟨b.length,by simp,bW _,λc o e=>by rw[aM (aD e hD)];exact e,aB⟩,?_⟩
   rintro i m H2 ⟨rfl,hi,sm,hD2⟩;by_cases hlt:i<b.length
   . refine .inr ⟨by show i<x.cps.size;omega,λH'=>(b.length-(i+1)<b.length-i)/\i+1<=b.length/\cZ H H'/\H' D=some (.cM (bv (b.take (i+1)))),λH' z=>⟨b.length-(i+1),z.1,rfl,z.2.1,z.2.2⟩,?_⟩
     rintro y H' ⟨rfl,c,hc,rfl⟩;obtain⟨d,hd⟩:∃d,b[i]? = some d:=⟨_,bf hlt⟩;have ec:c=d.toNat:=by
      have h1:x.cps.toList[i]? = some c:=by rw[eF];exact hc
      rw[<-hx,bA,hd]at h1;exact(cz h1).symm
     refine⟨rfl,_,rfl,_,rfl,rfl,_,hD2,?_,by omega,by omega,λa o e=>?_,?_⟩
     . rw[cA,aY];exact W2 (by omega)
     . rw[aM (aD e hD)];exact sm a o e
     . rw[aB,pq hd,uH,ec];rfl
   . have e:i=b.length:=by omega
     subst e;rw[gh]at hD2;exact .inl ⟨by show x.cps.size<=b.length;omega,q D H2 hD hD2 sm⟩
def ae3(t:TT)(σ:St)(H:Hp)(c:Bool):Prop:=∀Q:Bool->Hp->Prop,Q c H->t σ H Q
section
variable{ta tb:TE}{t u:TT}{c d:Bool}{v x y:V}{a b:Int}
def abr:Wi (tC v) σ H v:=λ_ q=>q
def aj0(va:Wi ta σ H x)(vb:Wi tb σ H y)(hs:ajH x y=true):Wi (tOp rNe ta tb) σ H (.bl (!decide (x=y))):=λ_ q=>va _ (vb _ ⟨hs,q⟩)
def RD(va:Wi ta σ H (.bl c))(vb:c=true->Wi tb σ H (.bl d)):Wi (agG ta tb) σ H (.bl (c&&d)):=λQ q=>va _ ⟨c,rfl,by
 cases c with
 |true=>exact cQ (vb rfl _ q)
 |false=>exact cY q⟩
def acT(va:Wi ta σ H (.bl c))(vb:c=false->Wi tb σ H (.bl d)):Wi (ala ta tb) σ H (.bl (c||d)):=λQ q=>va _ ⟨c,rfl,by
 cases c with
 |true=>exact cQ q
 |false=>exact cY (vb rfl _ q)⟩
def aib(va:Wi ta σ H (.bl c)):Wi (aiA ta) σ H (.bl (!c)):=λQ q=>va _ ⟨c,rfl,q⟩
def Ph(va:Wi te σ H (.bl c)):ae3 (Ql te) σ H c:=λQ q=>va _ ⟨c,rfl,q⟩
def adU(h1:ae3 t σ H c)(h2:c=false->ae3 u σ H d):ae3 (tOr t u) σ H (c||d):=λQ q=>h1 _ (by
 cases c with
 |true=>exact cQ q
 |false=>exact cY (h2 rfl _ q))
def ifT{tt uu:TS}(h:ae3 t σ H c)(h1:c=true->tt D σ H)(h2:c=false->uu D σ H):acJ t tt uu D σ H:=h _ (by
 cases c with
 |true=>exact cQ (h1 rfl)
 |false=>exact cY (h2 rfl))
end
def aeo(n:Nat)(b:Rb):inV (.int (n:Int)) (bv b)=b.any λc=>decide (c.toNat=n):=by
 unfold inV bv;rw[List.any_map];congr 1;funext c;show ((c.toNat:Int)==(n:Int))=_
 rw[bR];simp;omega
def Sv(b:Rb):(bv b).all Mm=true:=by unfold bv;rw[List.all_map];exact iT.mpr λ_ _=>rfl
def Ho(c:UInt8):Bool:=decide (33<=c.toNat/\c.toNat<=126)&&(c != 58&&!decide (65<=c.toNat/\c.toNat<=90))
def aeB:∀f:_root_.Fin 256,((decide ((33:Int)<=(f.val:Int))&&decide ((f.val:Int)<=126))&&((!decide (V.int (f.val:Int)=V.int 58))&&!(decide ((65:Int)<=(f.val:Int))&&decide ((f.val:Int)<=90))))=Ho (UInt8.ofNat f.val):=by decide +kernel
def aeC(c:UInt8):((decide ((33:Int)<=(c.toNat:Int))&&decide ((c.toNat:Int)<=126))&&((!decide (V.int (c.toNat:Int)=V.int 58))&&!(decide ((65:Int)<=(c.toNat:Int))&&decide ((c.toNat:Int)<=90))))=Ho c:=by
 have h:=aeB ⟨c.toNat,c.toNat_lt⟩;have e:UInt8.ofNat c.toNat=c:=by simp
 rw[show (⟨c.toNat,c.toNat_lt⟩:_root_.Fin 256).val=c.toNat from rfl,e]at h;exact h
inductive Ur(vs:List V)(H:Hp)(Q:VK)(_:XK):Prop
 |mk (c:UInt8) (_:vs=[.int (c.toNat:Int)]) (_:Q (.bl (Ho c)) H)
def Gq(F:j5 K "is_plain_name_byte" "is_plain_name_byte" tR f fd)(T:Txt K mg A):dR P w K mg base dW 1 f fd ["byte"] Ur:=by
 refine F.mZ (N:=["byte"]) (λ_ _ _ _ H _ Q _ _ h _=>?_)
 . obtain⟨c,rfl,q⟩:=h;refine⟨_,(aG (aZ (Eo (aa5 yR yR bx (pv 0) bx) (Eo (mL uA (pv 0) (cR T.ac4) (bO _)) (yw (af7 (aa5 yR yR bx (pv 0) bx))))))),?_⟩;have v0:Wi (iw 0) [some (.int (c.toNat:Int))] H (.int (c.toNat:Int)):=λQ q=>⟨_,rfl,q⟩;refine RD (vN (p1:=λi j=>decide (i<=j)) (p2:=λi j=>decide (i<=j)) abr v0 abr) (λ_=>RD (aj0 v0 abr rfl) (λ_=>aib (vN (p1:=λi j=>decide (i<=j)) (p2:=λi j=>decide (i<=j)) abr v0 abr))) _ ?_;dsimp only;rw[aeC];exact q
inductive ZC(A:Ad)(vs:List V)(H:Hp)(Q:VK)(_:XK):Prop
 |mk (a:Addr) (b:Rb) (_:vs=[.ref a]) (_:H a=some (.cM (bv b))) (_:Q (.bl (Rc28.goodValue b)) H)
def Mq(b:Rb):Rc28.goodValue b=(!((b.any λc=>decide (c.toNat=0))||((b.any λc=>decide (c.toNat=10))||(b.any λc=>decide (c.toNat=13))))&&(decide (b=[])||((b.head?.map blank).getD false==false&&(b.getLast?.map blank).getD false==false))):=by
 unfold Rc28.goodValue;have e:(b.all λc=>![0,10,13].contains c) = !((b.any λc=>decide (c.toNat=0))||((b.any λc=>decide (c.toNat=10))||(b.any λc=>decide (c.toNat=13)))):=by
  rw[bR];simp only[iT,mX,qy,List.any_eq_false,bK];constructor
  . intro h;refine⟨λx m z=>?_,λx m z=>?_,λx m z=>?_⟩ <;>
    . have:=h x m;have e:x=UInt8.ofNat x.toNat:=by simp
      rw[e,z]at this;revert this;decide
  . rintro⟨h1,h2,h3⟩ x m;have a1:=h1 x m;have a2:=h2 x m;have a3:=h3 x m;simp only[List.contains_cons,List.contains_nil,Bool.or_false,qy,jk];refine⟨λz=>a1 (by rw[z];rfl),λz=>a2 (by rw[z];rfl),λz=>a3 (by rw[z];rfl)⟩
 rw[e];congr 1
 cases b with
 |nil=>rfl
 |cons x r=>simp
def afa(c:UInt8):inV (.int (c.toNat:Int)) [V.int 32,V.int 9]=blank c:=by
 unfold inV blank;show (((32:Int)==(c.toNat:Int))||(((9:Int)==(c.toNat:Int))||false))=_
 rw[Bool.or_false,bR];simp only[oJ,je];constructor
 . rintro (h|h)
   . left;have e:c=UInt8.ofNat c.toNat:=by simp
     rw[e,show c.toNat=32 by omega];rfl
   . right;have e:c=UInt8.ofNat c.toNat:=by simp
     rw[e,show c.toNat=9 by omega];rfl
 . rintro (h|h)
   . left;rw[h];rfl
   . right;rw[h];rfl
def Mw(F:j5 K "is_plain_value" "is_plain_value" xf f fd)(T:Txt K mg A):dR P w K mg base dW 1 f fd ["value"] (ZC A):=by
 refine F.mZ (N:=["value"]) (λ_ _ _ _ H _ Q _ _ h _=>?_)
 . obtain⟨a,b,rfl,ha,q⟩:=h;refine⟨_,(ao (cV (uB (bF Ja bx (pv 0) (by with_unfolding_all rfl)) (uB (bF Ja bx (pv 0) (by with_unfolding_all rfl)) (rZ (bF Ja bx (pv 0) (by with_unfolding_all rfl))))).pt (aG (aZ qG)) bC)
    (aG (aZ (adw (mL pI (bV bc (by rfl) T.gO aO (aa (pv 0) aK)) bx (bO _)) (yw (Eo (mL MF (vU pZ (pv 0) bx (λ_ _=>rfl)) (cR T.aav) (by with_unfolding_all rfl)) (yw (mL MF (vU pZ (pv 0) (af8 acS bx) (λ_ _=>rfl)) (cR T.aav) (by with_unfolding_all rfl))))))))),?_⟩
   have vin:∀n:Nat,Wi (tOp (rIn K false) (tC (.int (n:Int))) (iw 0)) [some (.ref a)] H (.bl (b.any λc=>decide (c.toNat=n))):=λn Q q=>by
    refine⟨_,rfl,a,bv b,rfl,.inl (fH.of ha),rfl,Sv b,?_⟩;have:=aeo n b;show Q (.bl (inV _ _)) H
    rw[this];exact q
   refine ifT (c:=(b.any λc=>decide (c.toNat=0))||((b.any λc=>decide (c.toNat=10))||(b.any λc=>decide (c.toNat=13)))) (adU (Ph (vin 0)) λ_=>adU (Ph (vin 10)) λ_=>Ph (vin 13)) (λh=>?_) (λh=>?_)
   . have e:Rc28.goodValue b=false:=by rw[Mq,h];rfl
     rw[e]at q;exact q
   . rw[Mq,h,Bool.not_false,fK]at q;have hz:decide (V.int ((bv b).length:Int)=V.int 0)=decide (b=[]):=by
      rw[cA]
      cases b with
      |nil=>rfl
      |cons c r=>simp;omega
     dsimp only[J0,Dn];refine acT (c:=decide (b=[])) (d:=((b.head?.map blank).getD false==false&&(b.getLast?.map blank).getD false==false)) ?_ (λhne=>?_) _ q
     . intro Q q;refine⟨_,rfl,a,bv b,rfl,.inl (fH.of ha),rfl,?_⟩;rw[hz];exact q
     . have hne:b≠[]:=jw hne;have hpos:0<b.length:=qX.mpr hne;have h0:b[0]? = some b[0]:=bf hpos;have e1:(b.head?.map blank).getD false=blank b[0]:=by rw[List.head?_eq_getElem?,h0];rfl
       have hl:b[b.length-1]? = some b[b.length-1]:=bf (by omega);have e2:(b.getLast?.map blank).getD false=blank b[b.length-1]:=by rw[List.getLast?_eq_getElem?,hl];rfl
       rw[e1,e2];have nb:∀c:UInt8,(blank c==false) = !inV (.int (c.toNat:Int)) [V.int 32,V.int 9]:=λc=>by rw[afa];cases blank c<;>rfl
       rw[nb,nb];refine RD (λQ q=>?_) (λ_=>λQ q=>?_)
       . refine⟨_,rfl,a,bv b,_,_,rfl,rfl,fH.of ha,jN (j:=0) rfl (show (bv b)[0]? = some (.int (b[0].toNat:Int)) by unfold bv;rw[bA,h0];rfl),A.Xl,_,rfl,.inr (T.abk H),rfl,rfl,q⟩
       . refine⟨_,rfl,_,rfl,a,bv b,_,_,rfl,rfl,fH.of ha,?_,A.Xl,_,rfl,.inr (T.abk H),rfl,rfl,q⟩;show atI (bv b) (-1)=some (.int (b[b.length-1].toNat:Int))
         unfold atI ixN;rw[if_neg (by decide),cA,if_pos (by omega)];show (bv b)[(-1+(b.length:Int)).toNat]? = _
         rw[show (-1+(b.length:Int)).toNat=b.length-1 by omega];unfold bv;rw[bA,hl];rfl
inductive adI(A:Ad)(vs:List V)(H:Hp)(Q:VK)(_:XK):Prop
 |mk (X:List Addr) (a:Addr) (h:Rh) (_:vs=[.ref a]) (_:sU A X H a h) (_:Q (.bl (Rc28.isPseudo h)) H)
def Hq(F:j5 K "begins_with_colon" "begins_with_colon" uK f fd)(T:Txt K mg A):dR P w K mg base dW 1 f fd ["header"] (adI A):=by
 refine F.mZ (N:=["header"]) (λ_ _ _ _ _ _ Q _ _ h _=>?_)
 . obtain⟨X,a,h,rfl,⟨dx,n,v,h1,h2,h3,_⟩,q⟩:=h;refine⟨_,(aG (aZ (Eo (mL qF (bV bc (by rfl) T.gO aO (aa (aaO 0 rfl) aK)) bx (bO _)) (yw (mL pI (vU pZ (aaO 0 rfl) bx (λ_ _=>rfl)) (cR T.ac4) (bO _)))))),?_⟩;have e:Rc28.isPseudo h=(decide ((0:Int)<(((bv h.1).length:Nat):Int))&&(h.1.head?==some 58)):=by
    unfold Rc28.isPseudo;rw[cA]
    cases hh:h.1 with
    |nil=>rfl
    |cons c r=>simp
   rw[e]at q;refine RD (λQ q=>⟨rfl,h1,T.iK,T.gP,ir,_,_,rfl,.inl (fH.of h2),_,_,rfl,rfl,q⟩) (λhp=>λQ q=>?_) _ q;have hp:0<h.1.length:=by have:=bL hp;rw[cA]at this;omega
   have h0:h.1[0]? = some h.1[0]:=bf hp;refine⟨rfl,h1,T.iK,T.gP,ir,_,_,_,_,rfl,rfl,fH.of h2,jN (j:=0) rfl (show (bv h.1)[0]? = some (.int (h.1[0].toNat:Int)) by unfold bv;rw[bA,h0];rfl),rfl,?_⟩
   have e2:(h.1.head?==some 58)=decide (V.int (h.1[0].toNat:Int)=V.int 58):=by
    rw[List.head?_eq_getElem?,h0,bR];simp only[je,lg,bK,V.int.injEq];constructor
    . intro z;rw[z];rfl
    . intro z;have e:h.1[0]=UInt8.ofNat h.1[0].toNat:=by simp
      rw[e,show h.1[0].toNat=58 by omega];rfl
   rw[<-e2];exact q
inductive abj(K:Fg)(vs:List V)(H:Hp)(Q:VK)(_:XK):Prop
 |mk (a:Addr) (b:Rb) (_:vs=[.ref a]) (_:fH K H a (bv b)) (_:b.length<=100000) (_:Q (.int ((Rc28.num b%2^31:Nat):Int)) H)
def Ax(F:j5 K "number_without_top_bit" "number_without_top_bit" pO f fd)(T:Txt K mg A)(du:jQ P w K mg base "number_of_bytes" dW 1 ["row"] (Us K)):dR P w K mg base dW 2 f fd ["row"] (abj K):=by
 refine F.mZ (N:=["row"]) (λ_ _ _ _ _ _ _ _ hr h _=>?_)
 . obtain⟨a,b,rfl,ha,hb,q⟩:=h;refine⟨_,(aG (aZ (iW Y4 (aU du hr.lw (aa (pv 0) aK)) (cR T.QG)))),?_⟩;refine⟨_,rfl,a,b,rfl,ha,hb,_,_,rfl,rfl,?_⟩;dsimp only;rw[show (2147483647:Int)=((2^31-1:Nat):Int) from rfl,Hk];exact q
end My
namespace My
open PySem
def Cy(xs:Array Nat):Prop:=xs.toList.Pairwise (·<·)
def Cy.lt{xs:Array Nat}(h:Cy xs){k x y:Nat}(hik:i<k)(hi:xs[i]? = some x)(hk:xs[k]? = some y):x<y:=by
 rw[<-eF]at hi hk;obtain⟨h1,e1⟩:=bh.mp hi;obtain⟨h2,e2⟩:=bh.mp hk;have:=kI.mp h i k h1 h2 hik;rw[e1,e2]at this;exact this
def Cut(xs:Array Nat)(j r:Nat):Prop:=r<=xs.size/\(∀k x,k<r->xs[k]? = some x->x<j)/\(∀k x,r<=k->xs[k]? = some x->j<=x)
theorem ae8{xs:Array Nat}(hs:Cy xs)(j:Nat):∀fuel lo hi,hi-lo<=fuel->lo<=hi->hi<=xs.size->(∀k x,k<lo->xs[k]? = some x->x<j)->(∀k x,hi<=k->xs[k]? = some x->j<=x) ->
 Cut xs j (SetTable.below.go xs j fuel lo hi):=by
 intro fuel;induction fuel with
 |zero=>
  intro lo hi h1 h2 h3 h4 h5;have e:hi=lo:=by omega
  subst e;exact⟨h3,h4,h5⟩
 |succ fuel ih=>
  intro lo hi h1 h2 h3 h4 h5;unfold SetTable.below.go;split
  . rename_i hlt;dsimp only;have hm:(lo+hi) / 2<xs.size:=by omega
    have hg:xs[(lo+hi) / 2]? = some xs[(lo+hi) / 2]:=gF hm;have hd:xs.getD ((lo+hi) / 2) j=xs[(lo+hi) / 2]:=by simp[Array.getD,hm]
    rw[hd];split
    . rename_i hx;refine ih _ _ (by omega) (by omega) h3 (λk x hk hkx=>?_) h5;rcases rK k ((lo+hi) / 2) with hc|hc
      . exact Nat.lt_trans (hs.lt hc hkx hg) hx
      . have:k=(lo+hi) / 2:=by omega
        subst this;rw[hg]at hkx;cases hkx;exact hx
    . rename_i hx;refine ih _ _ (by omega) (by omega) (by omega) h4 (λk x hk hkx=>?_);rcases rK ((lo+hi) / 2) k with hc|hc
      . have:=hs.lt hc hg hkx;omega
      . have:k=(lo+hi) / 2:=by omega
        subst this;rw[hg]at hkx;cases hkx;omega
  . have e:hi=lo:=by omega
    subst e;exact⟨h3,h4,h5⟩
def Ny{xs:Array Nat}(hs:Cy xs)(j:Nat):Cut xs j (SetTable.below xs j):=
 ae8 hs j _ _ _ (by omega) (bW _) (aH _) (λk x h=>absurd h (kO _)) (λk x h e=>by
  rw[mz h]at e;cases e)
def abJ{xs:Array Nat}(hs:Cy xs):SetTable.below xs 0=0:=by
 obtain⟨h1,h2,_⟩:=Ny hs 0;rcases Nat.eq_zero_or_pos (SetTable.below xs 0) with h|h
 . exact h
 . exact absurd (h2 0 _ h (gF (by omega))) (kO _)
def abI{xs:Array Nat}(hs:Cy xs){x:Nat}(hi:xs[i]? = some x):SetTable.below xs (x+1)=i+1:=by
 obtain⟨h1,h2,h3⟩:=Ny hs (x+1);have a:¬SetTable.below xs (x+1)<=i:=λh=>by have:=h3 i x h hi;omega
 have b:¬i+1<SetTable.below xs (x+1):=λh=>by
  have hl:i+1<xs.size:=by omega
  have e:=gF hl;have:=h2 (i+1) _ h e;have:=hs.lt (jX i) hi e;omega
 omega
def Er(n:Nat):Cy (Array.range n):=by
 unfold Cy;rw[Array.toList_range];exact List.pairwise_lt_range
def aa9{xs:Array Nat}(hs:Cy xs)(hj:xs[SetTable.below xs j]?≠some j):Cy (SetTable.insertAt xs (SetTable.below xs j) j):=by
 obtain⟨h1,h2,h3⟩:=Ny hs j;unfold Cy;rw[SetTable.toList_insertAt];have hlt:∀x∈xs.toList.take (SetTable.below xs j),x<j:=λx hx=>by
  obtain⟨k,hk⟩:=jo.mp hx;rw[List.getElem?_take]at hk;split at hk
  . rename_i hkl;rw[eF]at hk;exact h2 k x hkl hk
  . cases hk
 have hgt:∀x∈xs.toList.drop (SetTable.below xs j),j<x:=λx hx=>by
  obtain⟨k,hk⟩:=jo.mp hx;rw[List.getElem?_drop,eF]at hk;have h4:=h3 _ x (lR _ _) hk;rcases Nat.eq_or_lt_of_le h4 with e|h
  . subst e;rcases Nat.eq_zero_or_pos k with rfl|hk0
    . exact absurd hk hj
    . have hb:SetTable.below xs j<xs.size:=by
       have:=(Array.getElem?_eq_some_iff.mp hk).1;omega
      have h5:=hs.lt (Nat.lt_add_of_pos_right hk0) (gF hb) hk;have h6:=h3 _ _ (aH _) (gF hb);omega
  . exact h
 have hp:=hs;unfold Cy at hp;rw[<-List.take_append_drop (SetTable.below xs j) xs.toList]at hp;obtain⟨p1,p2,p3⟩:=List.pairwise_append.mp hp;refine List.pairwise_append.mpr ⟨p1,List.pairwise_cons.mpr ⟨hgt,p2⟩,λx hx y hy=>?_⟩;rcases aJ.mp hy with rfl|hy
 . exact hlt x hx
 . exact p3 x hx y hy
def aeL{t:SetTable}(h:∀i,t.slot j≠.live i):t.place[SetTable.below t.place j]?≠some j:=λe=>by
 refine h (SetTable.below t.place j) ?_;unfold SetTable.slot;simp[e]
theorem acv(t:SetTable)(ha:Nat->Int)(h:Int):∀fuel (p:SetTable.Probe) (j:Nat) (d:Option Nat),(∀d',p.dummy=some d'->∀i,t.slot d'≠.live i) ->
 SetTable.probe.go t ha h fuel p=some (.empty j d)->∀i,t.slot (d.getD j)≠.live i:=by
 intro fuel;induction fuel with
 |zero=>intro p j d _ e;cases e
 |succ fuel ih=>
  intro p j d hd e;have adv:∀q:SetTable.Probe,(t.advance q).dummy=q.dummy:=λq=>by unfold SetTable.advance;split<;>rfl
  unfold SetTable.probe.go at e;split at e
  . rename_i hs;injection e with e;injection e with e1 e2;subst e1;subst e2;intro i
    cases hdd:p.dummy with
    |none=>rw[Option.getD_none,hs];intro c;cases c
    |some d'=>rw[Option.getD_some];exact hd d' hdd i
  . rename_i hs;refine ih _ j d (λd' hd'=>?_) e;rw[adv]at hd'
    cases hd';intro i;rw[hs];intro c;cases c
  . split at e
    . cases e
    . exact ih _ j d (λd' hd'=>by rw[adv]at hd';exact hd d' hd') e
def Vq{t:SetTable}{h:Int}{b:Bool}(e:t.freeSlot h=some (j,b)):t.place[SetTable.below t.place j]?≠some j:=by
 unfold SetTable.freeSlot at e;split at e
 . rename_i j' d hp;injection e with e;injection e with e1 _;subst e1;exact aeL (acv t _ h _ _ j' d (λd' hd'=>by cases hd') hp)
 . cases e
def PB{t:SetTable}(hs:Cy t.place)(es:Array (Int×Value))(h:Int)(x:Value):Cy (layNew t es h x).2.1.place/\(layNew t es h x).2.1.led=t.led:=by
 unfold layNew;split
 . rename_i slot wd e;dsimp only;unfold SetTable.orStandIn;split
   . exact⟨aa9 hs (Vq e),rfl⟩
   . exact⟨Er _,rfl⟩
 . exact⟨Er _,rfl⟩
def aew(f:Nat->Option Nat):∀(l:List Nat),l.Pairwise (·<·)->((l.filterMap λj=>(f j).map (j,·)).map (·.1)).Pairwise (·<·):=by
 intro l hl;have hsub:List.Sublist ((l.filterMap λj=>(f j).map (j,·)).map (·.1)) l:=by
  clear hl;induction l with
  |nil=>exact .slnil
  |cons a l ih=>
   rw[nU]
   cases f a with
   |none=>exact .cons _ ih
   |some v=>exact .cons₂ _ ih
 exact hl.sublist hsub
def JW{t:SetTable}(es:Array (Int×Value))(wanted:Nat):Cy (relayAll t es wanted).2.1.place/\(relayAll t es wanted).2.1.led=t.led:=by
 unfold relayAll;split
 . rename_i t' order e;dsimp only;split
   . unfold SetTable.relaid SetTable.laid at e
     cases ho:SetTable.layClean (SetTable.sizeAbove wanted-1) (es.map (·.1)) with
     |none=>rw[ho]at e;cases e
     |some owner=>
      rw[ho]at e
      cases e;exact⟨by unfold Cy;exact aew _ _ List.pairwise_lt_range,rfl⟩
   . exact⟨Er _,rfl⟩
 . exact⟨Er _,rfl⟩
theorem Kl{α:Type}:∀(l:List α)(i:Nat)(h:i<l.length),(l[i]::l.eraseIdx i).Perm l
 |a::l,0,_=>.rfl
 |a::l,i+1,h=>by
  have h':i<l.length:=by simpa using h
  show (l[i]::a::l.eraseIdx i).Perm (a::l)
  exact(List.Perm.swap _ _ _).trans (List.Perm.cons a (Kl l i h'))
def ahP{α:Type}(next:Nat->Nat):∀(fuel k:Nat)(left:List α)(out:Array α),left.length=fuel->(pickOrder.go next fuel k left out).toList.Perm (out.toList++left):=by
 intro fuel;induction fuel with
 |zero=>intro k left out h;rw[gq.mp h,eQ];exact .rfl
 |succ fuel ih=>
  intro k left out h;have hm:next k%left.length<left.length:=Nat.mod_lt _ (by omega)
  unfold pickOrder.go;rw[bf hm];dsimp only;refine(ih (k+1) _ _ (by rw[List.length_eraseIdx_of_lt hm];omega)).trans ?_
  rw[Array.toList_push,iC];exact List.Perm.append_left _ (Kl _ _ hm)
def aeG{α:Type}(next:Nat->Nat)(xs:Array α):(pickOrder next xs).toList.Perm xs.toList:=by
 have:=ahP next xs.size 0 xs.toList #[] (by simp)
 simpa [pickOrder] using this
theorem aaV:∀(N:Nat)(l:List Int),l.Nodup->(∀x∈l,0<=x/\x<(N:Int))->l.length<=N
 |0,l,_,h=>by
  cases l with
  |nil=>exact aH _
  |cons x l=>have:=h x (.head _);omega
 |N+1,l,hn,h=>by
  have e:=aaV N (l.erase (N:Int)) (hn.erase _) (λx hx=>by
   have h1:=h x (List.mem_of_mem_erase hx);have h2:x≠(N:Int):=λe=>by subst e;exact(List.Nodup.not_mem_erase hn) hx
   omega)
  have:l.length<=(l.erase (N:Int)).length+1:=by
   rw[List.length_erase];split<;>omega
  omega
end My
namespace My
open PySem PyProof.Rows
def X4(w:World):Bool:=w.params.followText "set-order"
structure Ent(P:Program)(w:World)(S:Int->Bool)(es:Array (Int×Value))(t:SetTable):Prop where
 el:ElemsOf (intKind P w) es.toList
 mem:∀k,S k=true<->∃e∈es.toList,(intKind P w).is k e.2=true
 few:es.size<scanBound
 fit:t.fits es.size=true
 agk:Cy t.place
 led:t.led = !X4 w
def Ji(P:Program)(w:World)(h:Heap)(a:Addr)(S:Int->Bool)(n:Nat):Prop:=
 ∃o es ep t,h.get? a=some o/\o.ExactSet/\o.data=.set es ep t/\Ent P w S es t/\es.size=n
section
variable{A:Around}
def Ji.keep{S:Int->Bool}(x:Ji P w h a S n)(k:∀o,h.get? a=some o->h'.get? a=some o):Ji P w h' a S n:=by
 obtain⟨o,es,ep,t,h1,h2⟩:=x;exact⟨o,es,ep,t,k _ h1,h2⟩
def Ji.congr{S S':Int->Bool}{n':Nat}(x:Ji P w h a S n)(e:∀k,S k=S' k)(en:n=n'):Ji P w h a S' n':=by
 have:S=S':=funext e;subst this;subst en;exact x
def agE{es es':Array (Int×Value)}{t t':SetTable}{S':Int->Bool}(ho:h.get? a=some o)(hx:o.ExactSet)(hd:o.data=.set es ep t)(x:Ent P w S' es' t'):
 (h.update a (Obj.putSet es' t')).get? a=some {o with data:=.set es' (ep+1) t'}/\Ji P w (h.update a (Obj.putSet es' t')) a S' es'.size:=by
 have hg:(h.update a (Obj.putSet es' t')).get? a=some {o with data:=.set es' (ep+1) t'}:=by
  have e:=iZ (Obj.putSet es' t') ho (by rw[putSet_of es' t' hd];rfl)
  rwa [putSet_of es' t' hd]at e
 exact⟨hg,_,es',ep+1,t',hg,hx,rfl,x,rfl⟩
def Ent.plain{S:Int->Bool}{es:Array (Int×Value)}{t:SetTable}(x:Ent P w S es t)(b:Bool):Ent P w S es (if b then t else {t with plain:=false}):=by
 cases b
 . exact⟨x.el,x.mem,x.few,SetTable.fits_plain_off x.fit,x.agk,x.led⟩
 . exact x
def Ent.akT{S:Int->Bool}{es:Array (Int×Value)}{t:SetTable}(x:Ent P w S es t)(m:Nat):Ent P w S (relayAll t es m).1 (relayAll t es m).2.1/\(relayAll t es m).1.size=es.size:=by
 have hp:=relayAll_perm t es m;have hz:(relayAll t es m).1.size=es.size:=by rw[<-cW,hp.length_eq,cW]
 exact⟨⟨x.el.perm hp,λk=>(x.mem k).trans ⟨λ⟨e,he,q⟩=>⟨e,hp.mem_iff.mpr he,q⟩,λ⟨e,he,q⟩=>⟨e,hp.mem_iff.mp he,q⟩⟩,by rw[hz];exact x.few,relayAll_fits t es m,(JW es m).1,(JW es m).2.trans x.led⟩,hz⟩
def Ent.lay{S:Int->Bool}{es:Array (Int×Value)}{t:SetTable}{k:Int}(x:Ent P w S es t)(hk:(intKind P w).is k v=true)(hv:v.scannable=true)(hb:es.size+1<scanBound):
 Ent P w (λk'=>S k'||decide (k'=k)) (layNew t es ((intKind P w).hash k) v).1 (layNew t es ((intKind P w).hash k) v).2.1/\(layNew t es ((intKind P w).hash k) v).1.size=es.size+1:=by
 have hp:=layNew_perm t es ((intKind P w).hash k) v;rw[Array.toList_push]at hp;have hz:(layNew t es ((intKind P w).hash k) v).1.size=es.size+1:=by rw[<-cW,hp.length_eq,aF,cW];rfl
 exact⟨⟨(x.el.push hk hv).perm hp,mem_push_iff hk x.mem hp,by rw[hz];exact hb,layNew_fits _ _ _ _,(PB x.agk _ _ _).1,(PB x.agk _ _ _).2.trans x.led⟩,hz⟩
def alA{S:Int->Bool}{k:Int}{Q:Bool->Shared->Prop}(hk:(intKind P w).is k v=true)(hv:v.scannable=true)(hS:Ji P w s.heap a S n)(hb:n+1<scanBound)(h:∀h' b,Heap.SameBut a s.heap h'->Ji P w h' a (λk'=>S k'||decide (k'=k)) (if S k then n else n+1)->Q b {s with heap:=h'}):
 wpAny (model P w) A (setAddHashed a v ((intKind P w).hash k)) Q E s:=by
 obtain⟨o,es,ep,t,ho,hx,hd,x,rfl⟩:=hS;unfold setAddHashed setAddHashedIn;refine iG (aj (jb ho hd x.fit ?_));dsimp only;rw[byScan_of hv x.few x.el];simp only[↓reduceIte];unfold setAddByScan;refine aj (aj (wpAny_rule (aj (wpAny_setScan_of hk ho hd x.fit x.el ?_))));have hg:∀(b:Bool)(s₁:Shared)(Q':Unit->Shared->Prop),Q' () s₁->wpAny (model P w) A (match b with|true=>rule "set.scan.the-table-gave-way"|false=>pure ()) Q' E s₁:=
  λb s₁ Q' hq=>by cases b<;>first|exact aA hq|exact wpAny_rule hq
 cases hr:List.findIdx? (λe=>(intKind P w).is k e.2) es.toList with
 |some j=>
  dsimp only;obtain⟨hj,hpj,_⟩:=jV.mp hr;have hSk:S k=true:=(x.mem k).mpr ⟨es.toList[j],nR hj,hpj⟩;refine aA (aA ?_);have q:=h s.heap false (Heap.SameBut.refl a s.heap) ⟨o,es,ep,t,ho,hx,hd,⟨x.el,λk'=>by
   rw[oJ,bK,<-x.mem k'];exact⟨λhk=>hk.elim id (λe=>e▸hSk),.inl⟩,x.few,x.fit,x.agk,x.led⟩,by rw[if_pos hSk]⟩
  exact q
 |none=>
  dsimp only;have hSk:S k=false:=by
   cases hk:S k with
   |false=>rfl
   |true=>obtain⟨e,he,hp⟩:=(x.mem k).mp hk;have:=List.findIdx?_eq_none_iff.mp hr e he;rw[hp]at this;exact Bool.noConfusion this
  obtain⟨y,hz⟩:=x.lay hk hv hb;generalize layNew t es ((intKind P w).hash k) v=L at y hz ⊢;obtain⟨es1,t1,wd,Aw⟩:=L;dsimp only at y hz ⊢;refine aj (hg _ _ _ ?_);have fin:∀(g:Bool->Sem Unit) (hg:∀(b:Bool)(s₁:Shared)(Q':Unit->Shared->Prop),Q' () s₁->wpAny (model P w) A (g b) Q' E s₁) (b:Bool),wpAny (model P w) A (do
   storeSet a es1 (if b then t1 else {t1 with plain:=false})
   if (!wd&&(if b then t1 else {t1 with plain:=false}).tooFull)=true then do
    g (relayAll (if b then t1 else {t1 with plain:=false}) es1 (SetTable.grown es1.size)).2.2
    storeSet a (relayAll (if b then t1 else {t1 with plain:=false}) es1 (SetTable.grown es1.size)).1 (relayAll (if b then t1 else {t1 with plain:=false}) es1 (SetTable.grown es1.size)).2.1
    pure (some true)
    else pure (some true)) (λr s'=>wpAny (model P w) A (match r with|some added=>pure added|none=>setAddHashedIn a v ((intKind P w).hash k) 99999) Q E s') E s:=by
   intro g hg b;have y':=y.plain b;generalize (if b then t1 else {t1 with plain:=false})=t2 at y' ⊢
   refine aj (wpAny_storeSet_of ho hd ?_ (jF y'.few));obtain⟨ho1,hS1⟩:=agE ho hx hd y';have hsb1:=fM s.heap a (Obj.putSet es1 t2);split
   . obtain⟨y2,hz2⟩:=y'.akT (SetTable.grown es1.size);generalize relayAll t2 es1 (SetTable.grown es1.size)=R at y2 hz2 ⊢;obtain⟨es2,t3,gave2⟩:=R;dsimp only at y2 hz2 ⊢;refine aj (hg _ _ _ ?_);refine aj (wpAny_storeSet_of ho1 rfl ?_ (jF y2.few));obtain⟨_,hS2⟩:=agE ho1 hx rfl y2;refine aA (aA (h _ _ (hsb1.trans (fM _ a _)) (hS2.congr (λ_=>rfl) ?_)));rw[hSk,hz2,hz];rfl
   . refine aA (aA (h _ _ hsb1 (hS1.congr (λ_=>rfl) ?_)));rw[hSk,hz];rfl
  split
  . rw[hashByValue_scannable 8 hv];refine aj (aA (fin _ ?_ _));intro b s₁ Q' hq;cases b<;>first|exact aA hq|exact wpAny_rule hq
  . refine aj (aA (fin _ ?_ true));intro b s₁ Q' hq;cases b<;>first|exact aA hq|exact wpAny_rule hq
end
def Mj(val:Nat->Int)(i:Nat)(k:Int):k∈firstMet val i<->∃j,j<i/\val j=k:=by
 have h:=firstMet_any val i k;rw[bR,nQ,nQ]at h;constructor
 . intro hk;obtain⟨x,hx,e⟩:=h.mp ⟨k,hk,by simp⟩;obtain⟨j,hj,rfl⟩:=fL.mp hx;exact⟨j,pK.mp hj,by simpa using e⟩
 . rintro⟨j,hj,e⟩;obtain⟨x,hx,e'⟩:=h.mpr ⟨val j,fL.mpr ⟨j,pK.mpr hj,rfl⟩,by simpa using e⟩;have:x=k:=by simpa using e'
   exact this▸hx
theorem Hc(val:Nat->Int):∀i,(firstMet val i).Nodup
 |0=>by rw[firstMet_zero];exact sS
 |i+1=>by
  rw[firstMet_succ];have ih:=Hc val i;unfold step_dedup;split
  . exact ih
  . rename_i h;refine kZ.mpr ⟨ih,by simp,λa ha b hb=>?_⟩;rw[ak]at hb;subst hb;intro e;subst e;exact h (nQ.mpr ⟨_,ha,by simp⟩)
def Yi{val:Nat->Int}(N:Nat)(hv:∀i,0<=val i/\val i<(N:Int))(i:Nat):(firstMet val i).length<=N:=
 aaV N _ (Hc val i) λx hx=>by
  obtain⟨j,_,rfl⟩:=(Mj val i x).mp hx;exact hv j
section
variable{A:Around}{R:Result->Shared->Prop}{wr:List Addr}{G:Array GenState->Array GenState->Prop}{V:Nat->Value->Prop}{St:Nat->Shared->Prop}
def akI(W:WalksS P w A.in1 I fp wr G n V St)(S:Addr)(hSf:S∉fp)(val:Nat->Int)(hval:∀i v,V i v->∃t,v=.int (val i) t)(hb:∀i,(firstMet val i).length+1<scanBound):
 ∀(k i:Nat)(s:Shared),n-i=k->i<=n->St i s->Ji P w s.heap S (λk'=>(firstMet val i).any (·==k')) (firstMet val i).length ->
  (∀s',Moved (S::wr) G s s'->Ji P w s'.heap S (λk'=>(firstMet val n).any (·==k')) (firstMet val n).length->R (.ok (.ret .none)) s') ->
  codeAny (model P w) A (.builtin "set.update.loop" ⟨[.ref S,.ref I],[]⟩) R s:=by
 have hSw:S∉wr:=λh=>hSf (W.sub _ h);have hsub:∀b∈wr,b∈S::wr:=λb hb=>cJ _ hb;intro k;induction k with
 |zero=>
  intro i s hk hi hst hS hR;have hin:i=n:=by omega
  subst hin;refine iI F.entry_set_update_loop ?_;rw[jf F.plain_set_update_loop _];show wpAny _ A.in1 (pyNext (.ref I) >>= _) _ _ s
  refine aj (W.done s _ _ hst λs' hm=>?_);show wpAny _ A.in1 (ret Value.none) _ _ s'
  exact aA (hR s' (hm.mono hsub) (hS.keep λo e=>hm.heap S _ hSw e))
 |succ k ih=>
  intro i s hk hi hst hS hR;have hlt:i<n:=by omega
  refine iI F.entry_set_update_loop ?_;rw[jf F.plain_set_update_loop _];show wpAny _ A.in1 (pyNext (.ref I) >>= _) _ _ s
  refine aj (W.item i s _ _ hlt hst λv s' hP hst' hm=>?_);obtain⟨t,rfl⟩:=hval i v hP;have hS':=hS.keep λo e=>hm.heap S _ hSw e;show wpAny _ A.in1 (holding [Value.int (val i) t] (setAdd S (.int (val i) t)) >>= _) _ _ s'
  refine aj (iG ?_);unfold setAdd;refine iG (aj ((intKind P w).pyHash (k:=val i) (intKind_is _ _ _ _) ?_));refine alA (s:={s' with toks:=s'.toks+1}) (intKind_is _ _ _ _) rfl hS' (hb i) λh' _ hsb hS2=>?_;have hSi:Ji P w h' S (λk'=>(firstMet val (i+1)).any (·==k')) (firstMet val (i+1)).length:=
   hS2.congr (λk'=>by rw[firstMet_succ,step_any]) (by rw[firstMet_succ,step_length])
  refine aA ⟨plainId_quiet F.plain_set_update_loop _,ih (i+1) _ (by omega) hlt (W.frame _ s' _ _ hst' (mY _) λb hb o e=>?_) hSi λs'' hm'' hS''=>?_⟩
  . rw[hsb.2 b (λh:b=S=>hSf (by rw[<-h];exact hb))];exact e
  . refine hR s'' (Moved.trans W.gtrans ((hm.mono hsub).then_heap (mY _) λb o hb e=>?_) hm'') hS'';rw[hsb.2 b (λh:b=S=>hb (by rw[h];exact ig))];exact e
end
abbrev Tc(w:World):Obj:={cls:=.type "set",dict:=none,data:=.set #[] 0 (.fresh 0 0 (!X4 w))}
section
variable{A:Around}
def alJ(h:Heap):Ji P w (h.push (Tc w)) h.objs.size (λ_=>false) 0:=
 ⟨_,#[],0,_,aV _ rfl,⟨rfl,rfl,rfl⟩,rfl,⟨λe he=>by simp at he,λk=>by simp,by decide,by rfl,by unfold Cy;exact .nil,rfl⟩,rfl⟩
def Zo(a:Value){Q₁:Value->Shared->Prop}(h:Q₁ (.ref s.heap.objs.size) {s with heap:=s.heap.push (Tc w)}):
 codeAny (model P w) A (.call (.builtin "set.__new__") ⟨[.type "set",a],[]⟩) (wants Q₁ E) s:=by
 refine codeAny_of_tree ?_;show wpAny _ A.in1 (do checkBuiltinCall "set.__new__" ⟨[.type "set",a],[]⟩;again (.builtin "set.__new__" ⟨[.type "set",a],[]⟩)) _ _ s
 refine aj (wpAny_of_eq (PySem.F.newCall_set_1 a) (aA ⟨plainId_quiet PySem.F.plain_set_new _,iI PySem.F.entry_set_new ?_⟩));rw[jf PySem.F.plain_set_new _];unfold Builtin.«set.__new__» Builtin.Frozenset.newClass;have hsub:=sub_set_self;obtain⟨hp,g,d,tk,os⟩:=s;dsimp only;wp_walk;refine wpAny_askSetting (aA ?_);dsimp only;simp only[newObj];refine aj (wpAny_alloc (aA ?_));exact aA h
def ad9{l:Addr}{items:Array Value}{ns:List Int}{Q:Value->Shared->Prop}(hh:A.handled=none)(hl:s.heap.IsList l items)(hi:IntsAre items.toList ns)(hb:∀i,(firstMet (λi=>ns.getD i 0) i).length+1<scanBound)(h:∀(h':Heap)(tk:Nat),Ji P w h' s.heap.objs.size (λk'=>(firstMet (λi=>ns.getD i 0) items.size).any (·==k')) (firstMet (λi=>ns.getD i 0) items.size).length->s.heap.objs.size<h'.objs.size ->
 (∀b o,b<s.heap.objs.size->s.heap.get? b=some o->h'.get? b=some o)->Q (.ref s.heap.objs.size) {s with heap:=h',toks:=tk}):
 wpAny (model P w) A (call (.type "set") [.ref l]) Q E s:=by
 obtain⟨c,tl,hmro⟩:=PySem.F.called_set.mro;have hmade:=PySem.F.called_set.made;have hsub:=PySem.F.called_set.sub;refine wpAny_call (codeAny_of_tree ?_);show wpAny _ _ (callAny (.type "set") _) _ _ _
 refine aA ⟨Code.quiet_builtin _ (by decide +kernel),iI PySem.F.entry_type_call ?_⟩;rw[Around.under_plain (weight_type_call_type "set" [.ref l] []) rfl];have h1:=PySem.F.called_set.notType;have h2:=PySem.F.called_set.canCreate;have hct:=PySem.F.typeCall_set_1 (.ref l);repeat (any_goals (first|assumption|wp_step))
 refine iR (Zo (.ref l) (E:=E) (Q₁:=λobj s₁=>obj=.ref s.heap.objs.size/\s₁={s with heap:=s.heap.push (Tc w)}) ⟨rfl,rfl⟩) λr s₁ hr=>?_
 cases r with
 |error e=>exact hr
 |ok fl=>
  cases fl with
  |ret obj=>
   obtain⟨rfl,rfl⟩:=hr;have hS:(s.heap.push (Tc w)).get? s.heap.objs.size=some (Tc w):=aV _ rfl;have hT:Shared.TypeIs {s with heap:=s.heap.push (Tc w)} (.ref s.heap.objs.size) "set":=⟨_,hS,rfl⟩;have hli:=PySem.F.called_set.init.lookup;have hbi:=PySem.F.called_set.init.bind (.ref s.heap.objs.size);repeat (any_goals (first|assumption|wp_step))
   refine iR (codeAny_call_builtin (R:=wants (λr s₂=>r=.none/\∃h' tk,s₂={s with heap:=h',toks:=tk} /\
    Ji P w h' s.heap.objs.size (λk'=>(firstMet (λi=>ns.getD i 0) items.size).any (·==k')) (firstMet (λi=>ns.getD i 0) items.size).length /\
    (∀b o,b<s.heap.objs.size->s.heap.get? b=some o->h'.get? b=some o)) E) PySem.F.called_set.init.plain PySem.F.entry_set_init (check_set_init_1 hT ?_)) λr₂ s₂ hr₂=>?_
   . obtain⟨ol,hol,hcl,nl,hdl⟩:=hl;obtain⟨ocls,odict,odata,oslots⟩:=ol;simp only at hcl hdl;subst hcl;subst hdl;have hol':(s.heap.push (Tc w)).get? l=some {cls:=.type "list",dict:=odict,data:=.seq items nl,slots:=oslots}:=aL _ hol;have hsls:=PySem.F.sub_list_set;have hslf:=PySem.F.sub_list_frozenset;have hne:(Value.type "list"==Value.type "dict")=false:=by decide
     have hl1:(s.heap.push (Tc w)).IsList l items:=⟨_,hol',rfl,nl,rfl⟩;unfold Builtin.«set.__init__» noKeywords Builtin.Frozenset.updateFrom;generalize hPI:pyIter=PI;wp_walk;subst hPI;refine jG hl1 ?_;refine aj (wpAny_runValue ?_);have hlS:l<s.heap.objs.size:=aP hol;have hh3:A.in1.in1.in1.handled=none:=by simp[hh]
     have hneI:l≠(s.heap.push (Tc w)).objs.size:=by
      rw[bT];exact cu (jE hlS)
     have hSf:s.heap.objs.size∉[(s.heap.push (Tc w)).objs.size,l]:=by
      rw[bT];simp only[aJ,ak,cX,or_false,not_or];exact⟨cu (jX _),pA hlS⟩
     have hval:∀(i:Nat)(v:Value),items[i]? = some v->∃t,v=.int ((λi=>ns.getD i 0) i) t:=λi v hv=>IntsAre.int_at hi i v (by rw[eF];exact hv)
     refine akI ((Walks.list hh3 _ l hneI items).toS) s.heap.objs.size hSf (λi=>ns.getD i 0) hval hb (items.size-0) 0 _ (by omega) (bW _)
      ⟨⟨_,aV _ rfl,rfl,rfl⟩,(hl1.push _)⟩ ((alJ s.heap).keep λo e=>aL _ e) λs' hm hS'=>?_
     obtain⟨h',g',d',tk',os'⟩:=s';have eg:g'=s.gens:=hm.gens;have ed:d'=s.drawn:=hm.drawn;have eo:os'=s.os:=hm.os;subst eg;subst ed;subst eo;show wpAny _ _ _ _ _ _
     refine aA ?_;show wpAny _ _ (ret Value.none) _ _ _
     refine aA ⟨rfl,h',tk',rfl,hS',λb o hb e=>?_⟩;have hb1:b≠s.heap.objs.size:=cu hb;have hb2:b≠(s.heap.push (Tc w)).objs.size:=by
      rw[bT];exact cu (jE hb)
     exact hm.heap b o (by simp only[aJ,ak,cX,or_false,not_or];exact⟨hb1,hb2⟩) (aL _ (aL _ e))
   . cases r₂ with
     |error e=>exact hr₂
     |ok fl₂=>
      cases fl₂ with
      |ret r=>
       obtain⟨rfl,h',tk,rfl,hS',hk'⟩:=hr₂;repeat (any_goals (first|assumption|wp_step))
       exact h _ _ hS' (by obtain⟨o,_,_,_,e,_⟩:=hS';exact aP e) hk'
      |_=>exact hr₂.elim
  |_=>exact hr.elim
end
namespace F
def wG:Slot "set_iterator" "__next__" "set_iterator.__next__":=
 .of (owner:="set_iterator") (n:="__next__") (by rw[typeLookup_type,builtinLookup_eq_fast];kernel_rfl) (by decide +kernel) (by decide +kernel) (by decide +kernel)
  (by first|exact .inl (by decide +kernel)|exact .inr (by decide +kernel)) (by rw[isSubtype_type];kernel_rfl)
def M7:Slot "set_iterator" "__iter__" "set_iterator.__iter__":=
 .of (owner:="set_iterator") (n:="__iter__") (by rw[typeLookup_type,builtinLookup_eq_fast];kernel_rfl) (by decide +kernel) (by decide +kernel) (by decide +kernel)
  (by first|exact .inl (by decide +kernel)|exact .inr (by decide +kernel)) (by rw[isSubtype_type];kernel_rfl)
def Vp:entryFor table "set_iterator.__next__"=some Builtin.«set_iterator.__next__»:=entryFor_of_tree (by kernel_rfl)
def Vo:entryFor table "set_iterator.__iter__"=some Builtin.«dict_keyiterator.__iter__»:=
 entryFor_alias (id':="dict_keyiterator.__iter__") (by kernel_rfl) rfl (by decide +kernel) (by kernel_rfl)
def Su:entryFor table "set.__iter__"=some Builtin.«frozenset.__iter__»:=
 entryFor_alias (id':="frozenset.__iter__") (by kernel_rfl) rfl (by decide +kernel) (by kernel_rfl)
def XQ(a:Value):argsOk "set_iterator.__next__" ⟨[a],[]⟩:=by unfold argsOk;kernel_rfl
def XN(a:Value):argsOk "set_iterator.__iter__" ⟨[a],[]⟩:=by unfold argsOk;kernel_rfl
end F
def RN(h:Heap)(I S:Addr)(f:Value)(i n ep:Nat):Prop:=∃o,h.get? I=some o/\o.cls=.type "set_iterator"/\o.data=.fields #[f,.int i 0,.ref S,.int n 0,.int ep 0]
section
variable{A:Around}
def RN.typeIs{f:Value}(x:RN s.heap I S f i n ep):s.TypeIs (.ref I) "set_iterator":=let⟨o,h1,h2,_⟩:=x;⟨o,h1,h2⟩
def N8{f:Value}{Q:Value->Shared->Prop}(x:RN s.heap I S f i n ep)(h:Q (.ref I) s):wpAny (model P w) A (pyIter (.ref I)) Q E s:=by
 refine wpAny_pyIter_slot x.typeIs F.M7 (jP F.M7 x.typeIs F.Vo ?_ (F.XN _));show wpAny _ _ (ret (.ref I)) _ _ s
 exact aA ⟨_,rfl,"set_iterator",_,x.typeIs,F.wG.lookup,h⟩
theorem Rr{f:Value}{es:Array (Int×Value)}{t:SetTable}(x:RN s.heap I S f i n ep)(ho:s.heap.get? S=some o)(hd:o.data=.set es ep t)(hf:t.fits es.size=true)(hn:es.size=n)(h:wpAny (model P w) A.in1
 (match f with
 |Value.int slot Dr=>do
  match <-setNext S slot.toNat (i:Int).toNat (ep:Int).toNat with
   |some (x,next)=>do
    setField (Value.ref I) 0 (rawInt next)
    setField (Value.ref I) 1 (rawInt ((i:Int)+1))
    ret x
   |none=>do
    setField (Value.ref I) 2 Value.none
    raiseNew (<-newExc (Value.type "StopIteration") [])
 |x=>do
  match <-seqItems? f with
   |some places=>
    match places[(i:Int).toNat]? with
    |some (Value.int place Dr)=>do
     let x <-setNextDrawn S place.toNat (ep:Int).toNat
     setField (Value.ref I) 1 (rawInt ((i:Int)+1))
     ret x
    |some val=>unsupported "internal:set_iterator"
    |none=>do
     setField (Value.ref I) 0 (rawInt 0)
     setField (Value.ref I) 2 Value.none
     raiseNew (<-newExc (Value.type "StopIteration") [])
   |x=>unsupported "internal:set_iterator")
 (λfin s'=>∃v,fin=Fin.done (Flow.ret v)/\wpAny (model P w) A (pure (some v)) Q E s')
 (λe s'=>wpAny (model P w) A (do if (<-isInstance e (Value.type "StopIteration"))=true then pure none else throw e) Q E s') s):wpAny (model P w) A (pyNext (.ref I)) Q E s:=by
 obtain⟨oi,h1,h2,h3⟩:=id x;unfold pyNext;refine aj (wpAny_attempt (wpAny_callSpecial?_slot (name:=Str.ofString "__next__") x.typeIs F.wG
  (jP F.wG x.typeIs F.Vp ?_ (F.XQ _))))
 unfold Builtin.«set_iterator.__next__»;refine aj (aA ?_);dsimp only;refine aj (wpAny_fieldsOf h1 h3 ?_);dsimp only;refine aj (wpAny_setEntries_of ho hd hf ?_);rw[if_neg (by rw[hn];simp)]
 exact h
def adT(hh:A.handled=none)(hQ:∀h',(∀b o,s.heap.get? b=some o->h'.get? b=some o)->Q none {s with heap:=h'}):
 wpAny (model P w) A.in1 (newExc (Value.type "StopIteration") [] >>= λe=>(raiseNew e:Sem PySem.Fin)) (λfin s'=>∃v,fin=PySem.Fin.done (Flow.ret v)/\wpAny (model P w) A (pure (some v)) Q E s')
 (λe s'=>wpAny (model P w) A (do if (<-isInstance e (Value.type "StopIteration"))=true then pure none else throw e) Q E s') s:=by
 refine aj ?_;simp only[newExc,newTuple];refine aj (dJ ?_ (by size_fits));refine aj (m:=firstArgMember _ _) (wpAny_of_eq (a:=Value.none) (by first|rfl|(simp only[firstArgMember];rfl)) ?_)
 refine dJ ?_ (by size_fits);simp only[raiseNew];refine aj (wpAny_handled ?_);rw[show A.in1.handled=none from hh];refine aj (aA (wpAny_throw ?_));refine aj (wpAny_isInstance (T:="StopIteration") (b:=true) ⟨_,aV _ rfl,rfl⟩ isSubtype_stop ?_);exact aA (hQ _ λb o e=>aL _ (aL _ e))
def Iz{Q:Bool->Shared->Prop}(h:Q (X4 w) s):wpAny (model P w) A setsByText Q E s:=aj (wpAny_askSetting (aA h))
def M6{es:Array (Int×Value)}{t:SetTable}{Q:Option (Value×Nat)->Shared->Prop}(ho:s.heap.get? S=some o)(hd:o.data=.set es ep t)(hf:t.fits es.size=true)(hb:X4 w=true)(h:Q (((pickOrder (w.params.setOrder S ep) es)[i]?).map λe=>(e.2,sl)) s):wpAny (model P w) A (setNext S sl i ep) Q E s:=by
 unfold setNext;refine aj (jb ho hd hf ?_);dsimp only;refine aj (Iz ?_);rw[hb,if_pos rfl,if_neg (by simp)];unfold setWalk;refine aj (aj (jb ho hd hf ?_));dsimp only;refine aj (Iz ?_);rw[hb,if_pos rfl];exact aj (wpAny_askSetting (aA (aA h)))
def Qg{es:Array (Int×Value)}{t:SetTable}{Q:Option (Value×Nat)->Shared->Prop}(ho:s.heap.get? S=some o)(hd:o.data=.set es ep t)(hf:t.fits es.size=true)(hb:X4 w=false)(hdr:(!t.plain&&decide (es.size>1))=false)(hl:t.led=true)(h:Q (match es[SetTable.below t.place sl]?,t.place[SetTable.below t.place sl]? with|some (_,x),some j=>some (x,j+1)|_,_=>none) s):wpAny (model P w) A (setNext S sl i ep) Q E s:=by
 unfold setNext;refine aj (jb ho hd hf ?_);dsimp only;refine aj (Iz ?_);rw[hb,if_neg (by simp)];show wpAny _ _ (if (!t.plain&&decide (es.size>1))=true then _ else _) _ _ _
 rw[if_neg (by rw[hdr];simp)]
 refine aj ?_;show wpAny _ _ (if (!t.led&&!es.isEmpty)=true then _ else _) _ _ _
 rw[if_neg (by rw[hl];simp)]
 exact aA (aA h)
def RN.keep{f:Value}(x:RN h I S f i n ep)(k:∀o,h.get? I=some o->h'.get? I=some o):RN h' I S f i n ep:=let⟨o,h1,h2⟩:=x;⟨o,k _ h1,h2⟩
def Rx{f:Value}(x:RN h I S f i n ep):
 (∀v,RN (h.update I (Obj.mapFields (·.setIfInBounds 0 v))) I S v i n ep)/\(RN (h.update I (Obj.mapFields (·.setIfInBounds 1 (rawInt ((i:Int)+1))))) I S f (i+1) n ep):=by
 obtain⟨o,h1,h2,h3⟩:=x;exact⟨λv=>⟨_,iZ _ h1 (Obj.isFreed_of_fields (lq h3 _)),(Obj.cls_mapFields ..).trans h2,by rw[lq h3];simp[rawInt]⟩,
  ⟨_,iZ _ h1 (Obj.isFreed_of_fields (lq h3 _)),(Obj.cls_mapFields ..).trans h2,by rw[lq h3];simp[rawInt]⟩⟩
def uz{f:Value}{k:Nat}{Q:Unit->Shared->Prop}{M:Model}(x:RN s.heap I S f i n ep)(hk:k<5)(h:Q () {s with heap:=s.heap.update I (Obj.mapFields (·.setIfInBounds k v))}):wpAny M A (setField (.ref I) k v) Q E s:=by
 obtain⟨o,h1,h2,h3⟩:=x;exact wpAny_setField h1 h3 (by simpa using hk) h
def WR{nx:Nat}{es:Array (Int×Value)}{t:SetTable}(x:RN s.heap I S (.int sl 0) i n ep)(ho:s.heap.get? S=some o)(hd:o.data=.set es ep t)(hf:t.fits es.size=true)(hn:es.size=n)(hs:∀(Q':Option (Value×Nat)->Shared->Prop) (E':Value->Shared->Prop),Q' (some (v,nx)) s->wpAny (model P w) A.in1 (setNext S sl i ep) Q' E' s)(h:∀h',RN h' I S (.int nx 0) (i+1) n ep->Heap.SameBut I s.heap h'->Q (some v) {s with heap:=h'}):wpAny (model P w) A (pyNext (.ref I)) Q E s:=by
 refine Rr x ho hd hf hn ?_;dsimp only;rw[cI,cI,cI];refine aj (hs _ _ ?_);dsimp only;refine aj (uz x (by decide) ?_);have x1:=(Rx x).1 (rawInt nx);refine aj (uz (s:={s with heap:=s.heap.update I (Obj.mapFields (·.setIfInBounds 0 (rawInt nx)))}) x1 (by decide) ?_);exact aA ⟨_,rfl,aA (h _ (Rx x1).2 ((fM ..).trans (fM ..)))⟩
def aaC{es:Array (Int×Value)}{t:SetTable}(hh:A.handled=none)(x:RN s.heap I S (.int sl 0) i n ep)(ho:s.heap.get? S=some o)(hd:o.data=.set es ep t)(hf:t.fits es.size=true)(hn:es.size=n)(hs:∀(Q':Option (Value×Nat)->Shared->Prop) (E':Value->Shared->Prop),Q' none s->wpAny (model P w) A.in1 (setNext S sl i ep) Q' E' s)(h:∀h',Heap.ExtBut I s.heap h'->Q none {s with heap:=h'}):wpAny (model P w) A (pyNext (.ref I)) Q E s:=by
 refine Rr x ho hd hf hn ?_;dsimp only;rw[cI,cI,cI];refine aj (hs _ _ ?_);dsimp only;refine aj (uz x (by decide) ?_);refine adT (s:={s with heap:=s.heap.update I (Obj.mapFields (·.setIfInBounds 2 Value.none))}) hh λh' k=>h h' λb ob hb e=>k _ _ ?_;exact(fM s.heap I _).extBut b ob hb e
def acf{u:Int}{es:Array (Int×Value)}{t:SetTable}{ps:Array Value}(x:RN s.heap I S (.ref T) i n ep)(ho:s.heap.get? S=some o)(hd:o.data=.set es ep t)(hf:t.fits es.size=true)(hn:es.size=n)(hT:s.heap.get? T=some oT)(hdT:oT.data=.seq ps nt)(hp:ps[i]? = some (.int p 0))(hv:es[p]? = some (u,v))(h:∀h',RN h' I S (.ref T) (i+1) n ep->Heap.SameBut I s.heap h'->Q (some v) {s with heap:=h'}):wpAny (model P w) A (pyNext (.ref I)) Q E s:=by
 refine Rr x ho hd hf hn ?_;dsimp only;refine aj (wpAny_seqItems hT hdT ?_);dsimp only;rw[cI,cI,hp];dsimp only;rw[cI];refine aj ?_;unfold setNextDrawn;refine aj (jb ho hd hf ?_);dsimp only;rw[if_neg (by simp),hv];dsimp only;refine aA (aj (uz x (by decide) ?_));exact aA ⟨_,rfl,aA (h _ (Rx x).2 (fM ..))⟩
def aeg{es:Array (Int×Value)}{t:SetTable}{ps:Array Value}(hh:A.handled=none)(x:RN s.heap I S (.ref T) i n ep)(ho:s.heap.get? S=some o)(hd:o.data=.set es ep t)(hf:t.fits es.size=true)(hn:es.size=n)(hT:s.heap.get? T=some oT)(hdT:oT.data=.seq ps nt)(hp:ps[i]? = none)(h:∀h',Heap.ExtBut I s.heap h'->Q none {s with heap:=h'}):wpAny (model P w) A (pyNext (.ref I)) Q E s:=by
 refine Rr x ho hd hf hn ?_;dsimp only;refine aj (wpAny_seqItems hT hdT ?_);dsimp only;rw[cI,hp];dsimp only;refine aj (uz x (by decide) ?_);have x1:=(Rx x).1 (rawInt 0);refine aj (uz (s:={s with heap:=s.heap.update I (Obj.mapFields (·.setIfInBounds 0 (rawInt 0)))}) x1 (by decide) ?_);refine adT (s:={s with heap:=(s.heap.update I (Obj.mapFields (·.setIfInBounds 0 (rawInt 0)))).update I (Obj.mapFields (·.setIfInBounds 2 Value.none))}) hh λh' k=>h h' λb ob hb e=>k _ _ ?_;exact((fM s.heap I _).trans (fM _ I _)).extBut b ob hb e
def aec{src:Source}{Q:Nat->Shared->Prop}(hn:n≠0)(h:∀i d,i<n->Q i {s with drawn:=d}){M:Model}:wpAny M A (choose src n) Q E s:=
 λ_ _ _=>⟨hn,h _ _ (Nat.mod_lt _ (Nat.pos_of_ne_zero hn))⟩
theorem ada:∀(n:Nat)(xs:List Nat){Q:List Nat->Shared->Prop}{s:Shared},xs.length=n->(∀ys d,ys.Perm xs->Q ys {s with drawn:=d})->wpAny (model P w) A (drawOrder n xs) Q E s
 |0,xs,Q,s,hn,h=>by
  have:=h [] s.drawn (by rw[gq.mp hn]);unfold drawOrder;exact aA this
 |n+1,[],Q,s,hn,h=>by cases hn
 |n+1,x::xs,Q,s,hn,h=>by
  unfold drawOrder;refine aj (aec (by simp) λi d hi=>?_);rw[bf hi];dsimp only;refine aj (ada n _ (by rw[List.length_eraseIdx_of_lt hi,hn];rfl) λys d' hp=>aA (h _ d' ?_))
  exact(List.Perm.cons _ hp).trans (Kl _ _ hi)
end
def Wk(P:Program)(w:World)(A:Around)(I S m:Addr)(ord:List Value)(s:Shared):Prop:=
 ∃fp St,WalksS P w A I fp [I] (λa b=>b=a) ord.length (λi v=>ord[i]? = some v) St/\St 0 s/\(∀b∈fp,b=S\/m<=b)
section
variable{A:Around}{es:Array (Int×Value)}{t:SetTable}
def Yv(sb:Heap.SameBut I s.heap h'):Moved [I] (λa b:Array GenState=>b=a) s {s with heap:=h'}:=
 ⟨λb o hb e=>sb.extBut b o (λh=>hb (by simp[h])) e,rfl,rfl,rfl,aH _⟩
def ace(sb:Heap.ExtBut I s.heap h'):Moved [I] (λa b:Array GenState=>b=a) s {s with heap:=h'}:=
 ⟨λb o hb e=>sb b o (λh=>hb (by simp[h])) e,rfl,rfl,rfl,aH _⟩
def aeU(hh:A.handled=none)(hd:o.data=.set es ep t)(hf:t.fits es.size=true)(hb:X4 w=true)(hIS:S≠I){m:Addr}(hm:m<=I)(x:RN s.heap I S (.int 0 0) 0 es.size ep)(ho:s.heap.get? S=some o):
 Wk P w A I S m ((pickOrder (w.params.setOrder S ep) es).toList.map (·.2)) s:=by
 refine⟨[I,S],λi s=>RN s.heap I S (.int (0:Nat) 0) i es.size ep/\s.heap.get? S=some o,⟨λb hb=>by simp at hb;simp[hb],λ_=>rfl,λ_ _ _ h1 h2=>h2.trans h1,?_,?_,?_,?_⟩,⟨x,ho⟩,?_⟩
 . intro i s h' tk st _ k;exact⟨st.1.keep λo e=>k I (by simp) o e,k S (by simp) _ st.2⟩
 . intro i s Q E hi st hQ;rw[aC]at hi;have e:=bf hi;generalize hg:(pickOrder (w.params.setOrder S ep) es).toList[i]=en at e;refine WR (nx:=0) (v:=en.2) st.1 st.2 hd hf rfl (λQ' E' q=>M6 st.2 hd hf hb ?_) λh' x' sb=>hQ _ _ ?_ ⟨x',?_⟩ (Yv sb)
   . rw[eF]at e;rw[e];exact q
   . rw[bA,e];rfl
   . exact sb.extBut S _ hIS st.2
 . intro s Q E st hQ;refine aaC hh st.1 st.2 hd hf rfl (λQ' E' q=>M6 st.2 hd hf hb ?_) λh' sb=>hQ _ (ace sb);rw[aC,cW];rw[mz (aH _)];exact q
 . intro i s Q E st q;exact N8 st.1 q
 . intro b hb;rcases aJ.mp hb with rfl|hb
   . exact .inr hm
   . rw[ak]at hb;exact .inl hb
def acE(place:Array Nat):Nat->Nat
 |0=>0
 |i+1=>place.getD i 0+1
theorem LK{place:Array Nat}(hr:Cy place):∀i,i<=place.size->SetTable.below place (acE place i)=i
 |0,_=>abJ hr
 |i+1,h=>by
  have hi:i<place.size:=h;have e:place[i]? = some (place.getD i 0):=by simp[Array.getD,hi]
  exact abI hr e
def Ko(hf:t.fits es.size=true):t.place.size=es.size:=by
 simp only[SetTable.fits,bQ,je]at hf;exact hf.1
def agP(hh:A.handled=none)(hd:o.data=.set es ep t)(hf:t.fits es.size=true)(hb:X4 w=false)(hdr:(!t.plain&&decide (es.size>1))=false)(hl:t.led=true)(hr:Cy t.place)(hIS:S≠I){m:Addr}(hm:m<=I)(x:RN s.heap I S (.int 0 0) 0 es.size ep)(ho:s.heap.get? S=some o):
 Wk P w A I S m (es.toList.map (·.2)) s:=by
 refine⟨[I,S],λi s=>RN s.heap I S (.int (acE t.place i) 0) i es.size ep/\s.heap.get? S=some o,⟨λb hb=>by simp at hb;simp[hb],λ_=>rfl,λ_ _ _ h1 h2=>h2.trans h1,?_,?_,?_,?_⟩,⟨x,ho⟩,?_⟩
 . intro i s h' tk st _ k;exact⟨st.1.keep λo e=>k I (by simp) o e,k S (by simp) _ st.2⟩
 . intro i s Q E hi st hQ;rw[aC,cW]at hi;have e:=gF hi;generalize hg:es[i]=en at e;have hi':i<t.place.size:=by rw[Ko hf];exact hi
   have e2:t.place[i]? = some (t.place.getD i 0):=by simp[Array.getD,hi']
   refine WR (nx:=acE t.place (i+1)) (v:=en.2) st.1 st.2 hd hf rfl (λQ' E' q=>Qg st.2 hd hf hb hdr hl ?_) λh' x' sb=>hQ _ _ ?_ ⟨x',?_⟩ (Yv sb)
   . rw[LK hr i (kJ hi'),e,e2];exact q
   . rw[bA,eF,e];rfl
   . exact sb.extBut S _ hIS st.2
 . intro s Q E st hQ;refine aaC hh st.1 st.2 hd hf rfl (λQ' E' q=>Qg st.2 hd hf hb hdr hl ?_) λh' sb=>hQ _ (ace sb);rw[aC,cW,<-Ko hf,LK hr _ (aH _),Ko hf,mz (aH _)];exact q
 . intro i s Q E st q;exact N8 st.1 q
 . intro b hb;rcases aJ.mp hb with rfl|hb
   . exact .inr hm
   . rw[ak]at hb;exact .inl hb
def acU{ps:List Nat}(hh:A.handled=none)(hd:o.data=.set es ep t)(hf:t.fits es.size=true)(hIS:S≠I)(hIT:T≠I)(hT:s.heap.get? T=some oT)(hdT:oT.data=.seq (ps.map λi:Nat=>rawInt i).toArray nt)(hps:ps.Perm (List.range es.size)){m:Addr}(hm:m<=I)(hmT:m<=T)(x:RN s.heap I S (.ref T) 0 es.size ep)(ho:s.heap.get? S=some o):Wk P w A I S m (ps.map λi=>((es.toList[i]?).map (·.2)).getD .none) s:=by
 have hz:ps.length=es.size:=by rw[hps.length_eq,iD]
 refine⟨[I,S,T],λi s=>RN s.heap I S (.ref T) i es.size ep/\s.heap.get? S=some o/\s.heap.get? T=some oT,⟨λb hb=>by simp at hb;simp[hb],λ_=>rfl,λ_ _ _ h1 h2=>h2.trans h1,?_,?_,?_,?_⟩,⟨x,ho,hT⟩,?_⟩
 . intro i s h' tk st _ k;exact⟨st.1.keep λo e=>k I (by simp) o e,k S (by simp) _ st.2.1,k T (by simp) _ st.2.2⟩
 . intro i s Q E hi st hQ;rw[aC]at hi;have e:=bf hi;generalize hg:ps[i]=p at e;have hp:p<es.size:=by
    have:p∈ps:=by rw[<-hg];exact nR hi
    exact pK.mp (hps.mem_iff.mp this)
   have e2:=gF hp;generalize es[p]=en at e2;obtain⟨u,v⟩:=en;refine acf (p:=p) st.1 st.2.1 hd hf rfl st.2.2 hdT ?_ e2 λh' x' sb=>hQ _ _ ?_ ⟨x',?_,?_⟩ (Yv sb)
   . rw[List.getElem?_toArray,bA,e];rfl
   . rw[bA,e,oK,eF,e2];rfl
   . exact sb.extBut S _ hIS st.2.1
   . exact sb.extBut T _ hIT st.2.2
 . intro s Q E st hQ;refine aeg hh st.1 st.2.1 hd hf rfl st.2.2 hdT ?_ λh' sb=>hQ _ (ace sb);rw[aC,List.getElem?_toArray,gQ (by rw[aC];exact aH _)]
 . intro i s Q E st q;exact N8 st.1 q
 . intro b hb;rcases aJ.mp hb with rfl|hb
   . exact .inr hm
   . rcases aJ.mp hb with rfl|hb
     . exact .inl rfl
     . rw[ak]at hb;subst hb;exact .inr hmT
end
def T5{es:Array (Int×Value)}{ps:List Nat}(hps:ps.Perm (List.range es.size)):(ps.map λi=>((es.toList[i]?).map (·.2)).getD .none).Perm (es.toList.map (·.2)):=by
 refine(hps.map _).trans ?_;have:(List.range es.size).map (λi=>((es.toList[i]?).map (·.2)).getD Value.none)=es.toList.map (·.2):=by
  refine List.ext_getElem? λi=>?_;rw[bA,bA];rcases rK i es.size with h|h
  . rw[nW h,oK];have h':i<es.toList.length:=by simpa using h
    rw[bf h'];rfl
  . rw[gQ (by rw[iD];exact h),gQ (by simpa using h)];rfl
 rw[this]
def ahp{vs:List Value}:(∀v∈vs,∃k t,v=.int k t)->∃ns,IntsAre vs ns:=by
 induction vs with
 |nil=>intro _;exact⟨[],.nil⟩
 |cons v vs ih=>
  intro h;obtain⟨k,t,rfl⟩:=h v (.head _);obtain⟨ns,e⟩:=ih λv hv=>h v (.tail _ hv);exact⟨k::ns,.cons k t e⟩
def afJ{vs:List Value}{ns:List Int}(h:IntsAre vs ns)(k:Int):k∈ns<->∃v∈vs,Value.isInt k v=true:=by
 induction h with
 |nil=>simp
 |cons n t hr ih=>
  rw[aJ,ih];constructor
  . rintro (rfl|⟨v,hv,e⟩)
    . exact⟨_,.head _,by simp[Value.isInt]⟩
    . exact⟨v,.tail _ hv,e⟩
  . rintro⟨v,hv,e⟩;rcases aJ.mp hv with rfl|hv
    . left;have:=Value.isInt_shape e;obtain⟨t',e'⟩:=this;injection e' with e1 _;exact e1.symm
    . exact .inr ⟨v,hv,e⟩
structure Kp(s s':Shared):Prop where
 heap:∀b o,s.heap.get? b=some o->s'.heap.get? b=some o
 size:s.heap.objs.size<=s'.heap.objs.size
 gens:s'.gens=s.gens
 os:s'.os=s.os
section
variable{A:Around}{es:Array (Int×Value)}{t:SetTable}
def akG{A':Around}{Q:Value->Shared->Prop}(hh:A'.handled=none)(ho:s.heap.get? S=some o)(hx:o.ExactSet)(hd:o.data=.set es ep t)(x:Ent P w Sf es t)(h:∀I ord s',Wk P w A' I S s.heap.objs.size ord s'->ord.Perm (es.toList.map (·.2))->Kp s s'->s.heap.objs.size<=I->Q (.ref I) s'):wpAny (model P w) A (pyIter (.ref S)) Q E s:=by
 have hT:s.TypeIs (.ref S) "set":=⟨o,ho,hx.1⟩;refine wpAny_pyIter_slot hT PySem.F.slot_set_iter (jP PySem.F.slot_set_iter hT F.Su ?_ (PySem.F.args_set_iter_1 _));unfold Builtin.«frozenset.__iter__» Builtin.Frozenset.slot0;refine aj (aj (aA ?_));unfold Builtin.Frozenset.addrOf Builtin.Frozenset.sizeOf;dsimp only;refine aA ?_;refine aj (aj (wpAny_setEntries_of ho hd x.fit (aA ?_)));refine aj ?_;unfold setDrawn;refine aj (jb ho hd x.fit ?_);dsimp only;refine aj (Iz (aA ?_));show wpAny _ _ (if (!X4 w&&(!t.plain&&decide (es.size>1)))=true then _ else _) _ _ _
 have hSI:S<s.heap.objs.size:=aP ho;split
 . refine aj (ada _ _ (iD) λps d hps=>?_);have hz:ps.length=es.size:=by rw[hps.length_eq,iD]
   simp only[newTuple];refine aj (dJ ?_ (by have:=jF x.few;show (List.map (λi:Nat=>rawInt i) ps).toArray.size<=sizeLine;rw[bH,aC,hz];exact this))
   have ho1:(s.heap.push {cls:=.type "tuple",data:=.seq (ps.map λi:Nat=>rawInt i).toArray}).get? S=some o:=aL _ ho;refine aj (wpAny_setEpoch_of ho1 hd x.fit ?_);refine aj (dJ (aA ⟨_,rfl,"set_iterator",_,⟨_,aV _ rfl,rfl⟩,F.wG.lookup,?_⟩));have hsz:(s.heap.push {cls:=.type "tuple",data:=.seq (ps.map λi:Nat=>rawInt i).toArray}).objs.size=s.heap.objs.size+1:=bT ..;refine h _ _ _ (acU (T:=s.heap.objs.size) (S:=S) (nt:=0) hh hd x.fit (by rw[hsz];exact cu (jE hSI)) (by rw[hsz];exact cu (jX _)) (aL _ (aV _ rfl)) rfl hps (by rw[hsz];exact mY _) (aH _) ⟨_,aV _ rfl,rfl,rfl⟩ (aL _ ho1)) (T5 hps) ⟨λb o e=>aL _ (aL _ e),by rw[bT,hsz];omega,rfl,rfl⟩ (by rw[hsz];exact mY _)
 . rename_i hc;refine aj (aA ?_);refine aj (wpAny_setEpoch_of ho hd x.fit ?_);refine aj (dJ (aA ⟨_,rfl,"set_iterator",_,⟨_,aV _ rfl,rfl⟩,F.wG.lookup,?_⟩));have k:∀oI:Obj,Kp s {s with heap:=s.heap.push oI}:=λoI=>⟨λb o e=>aL _ e,by rw[bT];omega,rfl,rfl⟩
   cases hb:X4 w with
   |true=>exact h _ _ _ (aeU (S:=S) hh hd x.fit hb (cu hSI) (aH _) ⟨_,aV _ rfl,rfl,rfl⟩ (aL _ ho)) ((aeG _ _).map _) (k _) (aH _)
   |false=>
    rw[hb]at hc;exact h _ _ _ (agP (S:=S) hh hd x.fit hb (by simpa using hc) (by rw[x.led,hb];rfl) x.agk (cu hSI) (aH _) ⟨_,aV _ rfl,rfl,rfl⟩ (aL _ ho)) .rfl (k _) (aH _)
def afk{Q:List Value->Shared->Prop}(hh:A.handled=none)(ho:s.heap.get? S=some o)(hx:o.ExactSet)(hd:o.data=.set es ep t)(x:Ent P w Sf es t)(h:∀vs s',vs.Perm (es.toList.map (·.2))->Kp s s'->Q vs s'):wpAny (model P w) A (collect (.ref S)) Q E s:=by
 have hSL:S<s.heap.objs.size:=aP ho;unfold collect;refine aj (wpAny_runValue (iI PySem.F.entry_proto_collect ?_));rw[jf PySem.F.plain_proto_collect _];show wpAny _ A.in1 (newList [] >>= λl=>again (.builtin "list.__iadd__" ⟨[l,.ref S],[]⟩)) _ _ s
 refine aj (dJ ?_);refine aA ⟨plainId_quiet PySem.F.plain_list_iadd _,iI PySem.F.entry_list_iadd ?_⟩;rw[jf PySem.F.plain_list_iadd _];have ho1:(s.heap.push {cls:=.type "list",data:=.seq ([]:List Value).toArray}).get? S=some o:=aL _ ho;have hL1:(s.heap.push {cls:=.type "list",data:=.seq ([]:List Value).toArray}).get? s.heap.objs.size=some {cls:=.type "list",data:=.seq ([]:List Value).toArray}:=aV _ rfl;have h1:Builtin.List.listSameRef (.ref s.heap.objs.size) (.ref S)=false:=by simp[Builtin.List.listSameRef];exact pA hSL
 show wpAny _ A.in1 (Builtin.List.listExtendWith (.ref s.heap.objs.size) (.ref S) (.ref s.heap.objs.size)) _ _ _
 unfold Builtin.List.listExtendWith;have hT:Shared.TypeIs {s with heap:=s.heap.push {cls:=.type "list",data:=.seq ([]:List Value).toArray}} (.ref S) "set":=⟨o,ho1,hx.1⟩;refine aj (wpAny_typeOf hT ?_);rw[if_neg (by rw[h1];decide)]
 refine aj (akG (A':=A.in1) (by simp[hh]) ho1 hx hd x λI ord s1 W hp k hI1=>?_);have ho2:=k.heap _ _ ho1;have hT2:s1.TypeIs (.ref S) "set":=⟨o,ho2,hx.1⟩;have hL2:=k.heap _ _ hL1;refine aj (iG ?_);unfold Builtin.List.listLengthHint;refine aj (wpAny_specialOf hT2 PySem.F.slot_set_len.lookup ?_)
 (generalize Jr:("set.__len__":String)=id0;(fail_if_success (clear Jr id0));wp_delta;rw[show splitId id0=some ("set","__len__") from by subst Jr;decide +kernel];subst Jr)
 refine aj (wpAny_isInstance (b:=true) hT2 sub_set_self ?_);show wpAny _ A.in1 (typeOf (.ref S) >>= _) _ _ _
 refine aj (wpAny_typeOf hT2 ?_);refine aA ?_;show wpAny _ A.in1 (rule "list.extend.makes-room" >>= λ_=>Builtin.List.listTouch (.ref s.heap.objs.size) >>= λ_=>
  again (.builtin "list.extend.loop" ⟨[.ref s.heap.objs.size,.ref I,.ref s.heap.objs.size],[]⟩)) _ _ _
 refine aj (wpAny_rule ?_);refine aj ?_;show wpAny _ A.in1 (updateSeq s.heap.objs.size (·.push .none) >>= λ_=>updateSeq s.heap.objs.size (·.pop)) _ _ _
 refine aj (wpAny_updateSeq hL2 rfl ?_);have hL3:=iZ (Obj.mapSeq (·.push Value.none)) hL2 rfl;refine wpAny_updateSeq hL3 rfl ?_;have hL4:=iZ (Obj.mapSeq (·.pop)) hL3 rfl;have oth:∀b o,b≠s.heap.objs.size->s1.heap.get? b=some o->((s1.heap.update s.heap.objs.size (Obj.mapSeq (·.push Value.none))).update s.heap.objs.size (Obj.mapSeq (·.pop))).get? b=some o:=
  λb o hb e=>(lY _ _ (Ne.symm hb)).trans ((lY _ _ (Ne.symm hb)).trans e)
 obtain⟨fp,St,W,st,hfp⟩:=W;have hzp:(s.heap.push {cls:=.type "list",data:=.seq ([]:List Value).toArray}).objs.size=s.heap.objs.size+1:=bT ..;have hLf:s.heap.objs.size∉fp:=λhm=>by
  rcases hfp _ hm with e|e
  . exact pA hSL e
  . dsimp only at e;rw[hzp]at e;exact Nat.not_succ_le_self _ e
 have hoz:ord.length<=sizeLine:=by rw[hp.length_eq,aC,cW];exact jF x.few
 refine aA ⟨plainId_quiet PySem.F.plain_extend_loop _,codeAny_extend_loopS W hoz _ hLf _ ord.length 0 _ _ _ rfl (bW _)
  (W.frame 0 s1 _ s1.toks st (aH _) λb hb o e=>oth b o (λh=>hLf (h▸hb)) e) hL4 (ItemsOf.nil _) λs' acc' c' hm hS' hacc=>?_⟩
 show wpAny _ A (load s.heap.objs.size >>= _) _ _ s'
 refine aj (wpAny_load hS' ?_);have hacc':acc'.toList=ord:=by
  refine List.ext_getElem? λi=>?_;rcases rK i acc'.toList.length with hlt|hge
  . have e:=bf hlt;rw[e];exact(hacc.2 i _ (by rw[<-eF];exact e)).symm
  . rw[gQ hge,gQ (by rw[cW,hacc.1]at hge;exact hge)]
 refine aA (h _ s' ?_ ⟨λb o' e=>?_,?_,?_,?_⟩)
 . rw[hacc'];exact hp
 . have hb:b<s.heap.objs.size:=aP e;refine hm.heap b o' (by
    simp only[aJ,ak,cX,or_false,not_or];exact⟨cu hb,λe=>by subst e;dsimp only at hI1;rw[hzp]at hI1;exact Nat.not_succ_le_self _ (cG (Nat.succ_le_succ (kJ hb)) hI1)⟩) ?_
   exact oth b o' (cu hb) (k.heap _ _ (aL _ e))
 . exact kJ (aP hS')
 . exact hm.gens.trans k.gens
 . exact hm.os.trans k.os
def ah0{Q:Value->Shared->Prop}(hh:A.handled=none)(hS:Ji P w s.heap S Sf n)(h:∀(ns:List Int)(out:List Value)(e:Nat)(s':Shared)(a:Addr),IntsAre out ns->ns.length=n->(∀k,k∈ns<->Sf k=true)->Kp s s'->s.heap.objs.size<=a->s'.heap.get? a=some (seqObj "list" out.toArray e)->Q (.ref a) s'):
 wpAny (model P w) A (call (.builtin "sorted") [.ref S]) Q E s:=by
 obtain⟨o,es,ep,t,ho,hx,hd,x,hn⟩:=hS;refine Calls.call_function_entry kind_sorted plain_sorted entry_sorted (args_sorted1 _) ?_;unfold Builtin.«sorted»;refine aj (m:=checkCount "sorted" 1 1 _) (aA ?_);refine aj (afk (by simp[hh]) ho hx hd x λvs s1 hp k=>?_);have hvz:vs.length<=sizeLine:=by rw[hp.length_eq,aC,cW];exact jF x.few
 refine aj (wpAny_newList ?_ hvz);obtain⟨ns,hi⟩:=ahp (vs:=vs) λv hv=>by
  obtain⟨e,he,rfl⟩:=fL.mp (hp.mem_iff.mp hv);obtain⟨⟨k,hk,_⟩,_⟩:=x.el e he;obtain⟨t,e⟩:=Value.isInt_shape hk;exact⟨k,t,e⟩
 have hoL:(s1.heap.push (seqObj "list" vs.toArray 0)).get? s1.heap.objs.size=some (seqObj "list" vs.toArray 0):=aV _ rfl;show wpAny _ _ _ _ _ {s1 with heap:=s1.heap.push (seqObj "list" vs.toArray 0)}
 refine aj (iG (jP slot_list_sort ⟨_,hoL,rfl⟩ entry_list_sort (list_sort_treeAny (s:={s1 with heap:=s1.heap.push (seqObj "list" vs.toArray 0)}) hoL hi hvz λout ns' a1 a2 a3=>⟨_,rfl,?_⟩) (args_list_sort _)));obtain⟨e,he⟩:=sortedHeap_at (vs:=vs) (out:=out) hoL;refine aA ⟨_,rfl,h ns' out.toList e _ _ a1 ?_ (λk=>?_) ⟨λb o' hb=>?_,?_,k.gens,k.os⟩ k.size he⟩
 . rw[a2.length_eq,<-hi.length,hp.length_eq,aC,cW,hn]
 . rw[a2.mem_iff,afJ hi,x.mem];constructor
   . rintro⟨v,hv,hk⟩;obtain⟨e,he,rfl⟩:=fL.mp (hp.mem_iff.mp hv);exact⟨e,he,hk⟩
   . rintro⟨e,he,hk⟩;exact⟨e.2,hp.mem_iff.mpr (fL.mpr ⟨e,he,rfl⟩),hk⟩
 . have h1:=k.heap _ _ hb;have h2:(s1.heap.push (seqObj "list" vs.toArray 0)).get? b=some o':=aL _ h1;exact(sortedHeap_old (vs:=vs) (out:=out) (cu (aP h1)) (aP h2)).trans h2
 . exact cG k.size (kJ (aP he))
end
end My
namespace My
open PySem PySem.Spec L2
def bd(b:Rb):List PyData:=b.map λc=>PyData.int (c.toNat:Int)
theorem XS:∀a b:Rb,PyData.eqvAll (bd a) (bd b)=decide (a=b)
 |[],[]=>rfl
 |[],_::_=>rfl
 |_::_,[]=>rfl
 |x::xs,y::ys=>by
  show (PyData.eqv (.int (x.toNat:Int)) (.int (y.toNat:Int))&&PyData.eqvAll (bd xs) (bd ys))=_
  rw[XS xs ys];show (((x.toNat:Int)==(y.toNat:Int))&&decide (xs=ys))=_
  rw[bR];simp only[bQ,je,bK,List.cons.injEq];constructor
  . rintro⟨h1,h2⟩;exact⟨rA.mp (by omega),h2⟩
  . rintro⟨h1,h2⟩;exact⟨by rw[h1],h2⟩
theorem ae7:∀b:Rb,PyData.canLayAll0 (bd b)=true
 |[]=>rfl
 |c::r=>by show (PyData.canLay0 (.int _)&&PyData.canLayAll0 (bd r))=true;rw[ae7 r];rfl
theorem aaq:∀b:Rb,PyData.depthAll (bd b)=0
 |[]=>rfl
 |c::r=>by show max (PyData.depth (.int _)) (PyData.depthAll (bd r))=0;rw[aaq r];rfl
def wQ(b:Rb):SeqAt.shaped (.list (bd b))=true:=by
 show (PyData.canLayAll0 (bd b)&&decide (PyData.depthAll (bd b)+1<=64))=true
 rw[ae7,aaq];rfl
theorem aaA{K:Fg}{H:Hp}:∀b:Rb,DpAll K H (bv b) (bd b)
 |[]=>.nil
 |c::r=>.cons (.int _) (aaA r)
def Ww(h:fH K H a (bv b)):Dp K H (.ref a) (.list (bd b)):=.cM h (aaA b)
section
variable{X:Cx}
def abM{A:Around}{c:Addr}{x:Rb}(I:d8 X aN σ H s)(ha:H a=some (.cM (bv x)))(hc:H c=some (.cM (bv y)))(hu:A.units+64<cLine):SeqAt.EqAt A s (.ref a) (.ref c) (decide (x=y)):=by
 obtain⟨as,r1⟩:=Dp.reads I _ (.ref a) (.ref a) (Ww (fH.of ha)) rfl;obtain⟨bs,r2⟩:=Dp.reads I _ (.ref c) (.ref c) (Ww (fH.of hc)) rfl;have:=SeqAt.eqAt_reads _ _ A s _ _ as bs r1 r2 (SeqAt.canLay_of_shaped (wQ x)) (SeqAt.canLay_of_shaped (wQ y)) (SeqAt.room_of_shaped (wQ x) hu);have e:PyData.eqv (.list (bd x)) (.list (bd y))=decide (x=y):=XS x y;rw[e]at this;exact this
def isB(H:Hp)(y:Rb)(v:Value):Bool:=match v with
 |.ref a=>(match H a with
  |some (.cM xs)=>decide (xs=bv y)
  |_=>false)
 |_=>false
def aiP{x:Rb}:bv x=bv y<->x=y:=by
 constructor
 . intro h;unfold bv at h;have:x.map (λc=>c.toNat)=y.map (λc=>c.toNat):=by
    have h2:=j0 (List.map λv:V=>match v with|.int i=>i.toNat|_=>0) h
    rw[gH,gH]at h2;exact h2
   exact List.map_inj_right (f:=λc:UInt8=>c.toNat) (λa b e=>rA.mp e) |>.mp this
 . intro h;rw[h]
def ab6{x:Rb}(h:H a=some (.cM (bv x))):isB H y (.ref a)=decide (x=y):=by
 show (match H a with|some (.cM xs)=>decide (xs=bv y)|_=>false)=_
 rw[h];show decide (bv x=bv y)=_
 rw[bR];simp only[bK];exact aiP
abbrev U8(H:Hp)(as:List Addr)(bs:List Rb):Prop:=Paired (λa b=>H a=some (.cM (bv b))) as bs
theorem aca{y:Rb}{c:Addr}{A:Around}(I:d8 X aN σ H s)(hc:H c=some (.cM (bv y)))(hu:A.units+64<cLine):∀{as:List Addr}{bs:List Rb}{us:List Value},U8 H as bs->ie (as.map V.ref) us->∀u∈us,SeqAt.EqAt A s u (.ref c) (isB H y u)
 |_,_,_,.nil,r=>by cases r;intro u hu;cases hu
 |a::as,b::bs,_,.cons h t,r=>by
  cases r with
  |cons r1 r2=>
   intro u hm;rcases aJ.mp hm with rfl|hm
   . cases r1;rw[ab6 h];exact abM I h hc hu
   . exact aca I hc hu t r2 u hm
theorem afQ{y:Rb}:∀{as:List Addr}{bs:List Rb}{us:List Value},U8 H as bs->ie (as.map V.ref) us->us.any (isB H y)=bs.any λb=>decide (b=y)
 |_,_,_,.nil,r=>by cases r;rfl
 |a::as,b::bs,_,.cons h t,r=>by
  cases r with
  |cons r1 r2=>
   cases r1;rw[jL,jL,ab6 h,afQ t r2]
theorem aaP{y:Rb}:∀{as:List Addr}{bs:List Rb}{us:List Value},U8 H as bs->ie (as.map V.ref) us->us.countP (isB H y)=bs.countP λb=>decide (b=y)
 |_,_,_,.nil,r=>by cases r;rfl
 |a::as,b::bs,_,.cons h t,r=>by
  cases r with
  |cons r1 r2=>
   cases r1;rw[List.countP_cons,List.countP_cons,ab6 h,aaP t r2]
inductive alQ(x:V)(y:V)(H:Hp)(Q:VK):Prop
 |mk (c p:Addr) (b:Rb) (as:List Addr) (bs:List Rb) (_:x=.ref c) (_:H c=some (.cM (bv b))) (_:y=.ref p) (_:H p=some (.cM (as.map V.ref))) (_:U8 H as bs) (_:Q (.bl (bs.any λz=>decide (z=b))) H)
def ajt(hu:X.A.units+66<cLine):Jh X (compareOp .In) alQ:=by
 intro aN s σ H x y v u Q I rx ry h;obtain⟨c,p,b,as,bs,rfl,hc,rfl,hp,hl,q⟩:=h
 cases rx
 cases ry;obtain⟨its,r,pl,hz⟩:=I.list (fH.of hp);refine SeqAt.in_listAt (isB H b) pl.isList (λw hw=>aca I hc ?_ hl r w (by simpa using hw)) ⟨.bl _,H,I,rfl,?_⟩
 . show X.A.units+1+64<cLine;omega
 . rw[show its.toArray.any (isB H b)=its.any (isB H b) by simp,afQ hl r];exact q
inductive ahT(x:V)(vs:List V)(H:Hp)(Q:VK):Prop
 |mk (c p:Addr) (b:Rb) (as:List Addr) (bs:List Rb) (_:x=.ref p) (_:vs=[.ref c]) (_:H c=some (.cM (bv b))) (_:H p=some (.cM (as.map V.ref))) (_:U8 H as bs) (_:Q (.int ((bs.countP λz=>decide (z=b):Nat):Int)) H)
def WQ(hu:X.A.units+80<cLine):MtR X "list.count" ahT:=by
 intro aN s σ H x vs v us Q I rx rv h;obtain⟨c,p,b,as,bs,rfl,rfl,hc,hp,hl,q⟩:=h
 cases rx
 cases rv with
 |cons r1 rt=>
  cases rt
  cases r1;obtain⟨its,rv,⟨⟨cls,dd,data,sl⟩,n,ho,hcl,hdn,hd⟩,jB⟩:=I.list (fH.of hp);simp only at hcl hd;subst hcl hd;refine call_meets oM ⟨_,ho,rfl⟩ PySem.F.entry_list_count (PySem.F.args_list_count_2 _ _) (SeqAt.list_countAt p its.toArray n dd sl (.ref c) (isB H b)) ⟨ho,λw hw=>aca I hc ?_ hl rv w (by simpa using hw),?_⟩
  . show X.A.units+1+64<cLine;omega
  . refine⟨.int ((its.toArray.toList.countP (isB H b):Nat):Int),H,I.Dr _,⟨_,rfl⟩,?_⟩;have e:its.toArray.toList.countP (isB H b)=bs.countP λz=>decide (z=b):=by rw[show its.toArray.toList=its by simp];exact aaP hl rv
    rw[e];exact q
def eqB{c:Addr}{x:Rb}{Q:VK}(ha:fH K H a (bv x))(hc:fH K H c (bv y))(q:Q (.bl (decide (x=y))) H):akQ K (.ref a) (.ref c) H Q:=
 ⟨_,_,Ww ha,Ww hc,wQ x,wQ y,by show Q (.bl (PyData.eqvAll (bd x) (bd y))) H;rw[XS];exact q⟩
def neB{c:Addr}{x:Rb}{Q:VK}(ha:fH K H a (bv x))(hc:fH K H c (bv y))(q:Q (.bl (!decide (x=y))) H):akR K (.ref a) (.ref c) H Q:=
 ⟨_,_,Ww ha,Ww hc,wQ x,wQ y,by show Q (.bl (!PyData.eqvAll (bd x) (bd y))) H;rw[XS];exact q⟩
end
end My
namespace My
open PySem L2
def d8.akK{X:Cx}{σ:List (Option V)}{s':Shared}(I:d8 X aN σ H {s with heap:=s'.heap,toks:=s'.toks})(hg:s'.gens=s.gens)(ho:s'.os=s.os):d8 X aN σ H s':=
 ⟨I.ok,ho.trans I.os,by rw[hg];exact I.bare,I.base,I.PL,I.cell,I.free,I.tD,I.Qc,I.mC,I.len⟩
def tSS(te:TE):TE:=λσ H Q=>te σ H λv H1=>∃(a:Addr)(b:Rb),v=.ref a/\H1 a=some (.cM (bv b))/\∀(d:Rb)(p:Addr),(∀c,c∈d<->c∈b)->d.length<=256->H1 p=none->Q (.ref p) (bM H1 p (.cM (bv d)))
def bi(b:Rb):List Int:=b.map λc=>(c.toNat:Int)
def aip(b:Rb):bv b=(bi b).map V.int:=by unfold bv bi;rw[gH];rfl
def ag6(b:Rb)(i:Nat):0<=(bi b).getD i 0/\(bi b).getD i 0<((256:Nat):Int):=by
 rw[jZ];unfold bi;rw[bA]
 cases b[i]? with
 |none=>exact⟨Int.le_refl _,by decide⟩
 |some c=>
  have:=c.toNat_lt;simp only[oK,Option.getD_some];omega
def afz(b:Rb)(i:Nat):(PyProof.Rows.firstMet (λi=>(bi b).getD i 0) i).length<=256:=Yi 256 (ag6 b) i
def ajn(b:Rb)(k:Int):k∈PyProof.Rows.firstMet (λi=>(bi b).getD i 0) (bi b).length<->k∈bi b:=by
 rw[Mj];constructor
 . rintro⟨j,hj,rfl⟩;rw[jZ,bf hj];exact nR hj
 . intro h;obtain⟨j,hj,e⟩:=List.getElem_of_mem h;exact⟨j,hj,by rw[jZ,bf hj];exact e⟩
def Vk:∀(ns:List Int)(b:Rb),(∀k,k∈ns<->k∈bi b)->∃d:Rb,ns=bi d/\(∀c,c∈d<->c∈b):=by
 intro ns b h;have inj:∀x y:UInt8,(x.toNat:Int)=(y.toNat:Int)->x=y:=λx y e=>rA.mp (by omega);have mem:∀(l:Rb)(c:UInt8),(c.toNat:Int)∈bi l<->c∈l:=λl c=>by
  unfold bi;rw[fL];exact⟨λ⟨x,hx,e⟩=>inj x c e▸hx,λhc=>⟨c,hc,rfl⟩⟩
 have ex:∀(ms:List Int),(∀k∈ms,k∈bi b)->∃d:Rb,ms=bi d:=by
  intro ms;induction ms with
  |nil=>intro _;exact⟨[],rfl⟩
  |cons k ms ih=>
   intro hk;obtain⟨d,rfl⟩:=ih λk hk'=>hk k (.tail _ hk');have:=hk k (.head _);unfold bi at this;obtain⟨c,_,rfl⟩:=fL.mp this;exact⟨c::d,rfl⟩
 obtain⟨d,rfl⟩:=ex ns λk hk=>(h k).mp hk;exact⟨d,rfl,λc=>by rw[<-mem d c,h,mem b c]⟩
section
variable{X:Cx}{x y:Str}{p p':Pos}
def akO(hc:X.calm=true)(hg:Gl X x)(hm:X.mg x=none)(hv:bootBuiltins x=some (.builtin "sorted"))(hg':Gl X y)(hm':X.mg y=none)(hv':bootBuiltins y=some (.type "set"))(he:PE X e te)(hn:x≠"__name__":=by decide)(hdb:(x==("__debug__":Str))=false:=by decide)(hn':y≠"__name__":=by decide)(hdb':(y==("__debug__":Str))=false:=by decide)(h1:starEach [e] X.env=(false,eval e X.env)::starEach [] X.env:=by rfl)(h2:starEach [.Call (.Name y p') [e] [] pos'] X.env=(false,eval (.Call (.Name y p') [e] [] pos') X.env)::starEach [] X.env:=by rfl):
 PE X (.Call (.Name x p) [.Call (.Name y p') [e] [] pos'] [] pos) (tSS te):=by
 intro aN s σ H Q I h;refine fZ (Kv I hg hm hv ?_ hn hdb);refine PyProof.Rows.callWith_builtin1 ?_ h2 rfl;rw[h2];show wpAny _ _ (spliced ((false,_)::backTo pos (starEach [] X.env))) _ _ s
 refine gJ ?_;refine fZ (Kv I hg' hm' hv' ?_ hn' hdb');refine jM ?_ h1 rfl;rw[h1];show wpAny _ _ (spliced ((false,_)::backTo pos' (starEach [] X.env))) _ _ s
 refine gJ (nO (he aN s σ H _ I h) λu s1 ⟨v,H1,I1,r1,a,b,ev,ha,q⟩=>?_);subst ev
 cases r1;refine gZ ?_;obtain⟨its,rv,hl,hz⟩:=I1.list (fH.of ha);rw[aip]at rv;have hi:=rv.aho;have jB:its.toArray.size=(bi b).length:=by rw[bH];exact hi.length
 refine ad9 (I1.ok.hd hc) hl.isList (by simpa using hi) (λi=>iQ (Nat.succ_le_succ (afz b i)) (by decide)) λh' tk hS hlt hk=>?_;refine gZ ?_;rw[jB]at hS;refine ah0 (s:={s1 with heap:=h',toks:=tk}) (I1.ok.hd hc) hS λns out e s2 q' a1 a2 a3 k hq hget=>?_;have hmem:∀k,k∈ns<->k∈bi b:=λk=>by
  rw[a3,<-ajn b k,nQ];constructor
  . rintro⟨z,hz,e⟩;have:z=k:=by simpa using e
    exact this▸hz
  . intro hz;exact⟨k,hz,by simp⟩
 obtain⟨d,rfl,hd⟩:=Vk ns b hmem;have hdl:d.length<=256:=by
  have:(bi d).length=d.length:=aC ..;rw[<-this,a2];exact afz b _
 have hle:s1.heap.objs.size<=q':=cG (kJ hlt) hq;refine⟨.ref q',bM H1 q' (.cM (bv d)),d8.akK (s:=s1) (I1.laid (h':=s2.heap) (t':=s2.toks) (λc u e=>k.heap _ _ (hk c u (aP e) e)) hle ⟨?_,out,e,?_,hget⟩) k.gens k.os,rfl,q d q' hd hdl (I1.mC.fresh hle)⟩
 . rw[cA];exact cG hdl (by rw[bw];omega)
 . rw[aip];exact Ni a1
end
def ajl{d:Rb}(h:∀c,c∈d<->c∈b):lowName b=(decide ((0:Int)<((d.length:Nat):Int))&&(d.map Ho).all id):=by
 have h1:(d.map Ho).all id=b.all Ho:=by
  rw[List.all_map,bR,iT,iT];exact⟨λq c hc=>q c ((h c).mpr hc),λq c hc=>q c ((h c).mp hc)⟩
 have h2:(!b.isEmpty)=decide ((0:Int)<((d.length:Nat):Int)):=by
  cases b with
  |nil=>
   cases d with
   |nil=>rfl
   |cons c d=>exact absurd ((h c).mp (.head _)) (by simp)
  |cons c b=>
   cases d with
   |nil=>exact absurd ((h c).mpr (.head _)) (by simp)
   |cons e d=>simp
 rw[h1,<-h2];rfl
inductive Qj(vs:List V)(H:Hp)(Q:VK)(_:XK):Prop
 |mk (a:Addr) (b:Rb) (_:vs=[.ref a]) (_:H a=some (.cM (bv b))) (_:∀H',cZ H H'->Q (.bl (lowName b)) H')
def Oq(F:j5 K "is_plain_name" "is_plain_name" yG f fd)(T:Txt K mg A)(sY:jQ P w K mg base "is_plain_name_byte" dW 1 ["byte"] Ur):
 dR P w K mg base dW 2 f fd ["name"] Qj:=by
 refine F.mZ (N:=["name","different","byte"]) (λ_ _ _ _ H _ _ _ hr h nd0=>?_)
 . obtain⟨a,b,rfl,ha,q⟩:=h;refine⟨_,(ao (cB (i:=1) nd0 rfl (Or.inl rfl) (akO rfl (by rfl) T.ae6 PyProof.Rows.Boot.«sorted» (by rfl) T.akl PyProof.Rows.Boot.«set» (pv 0)))
    (aG (aZ (Eo (mL qF (bV bc (by rfl) T.gO aO (aa (pv 1) aK)) bx (bO _)) (yw (bV (afl rfl) (by rfl) T.aim PyProof.Rows.Boot.«all» (aa (T4 rfl nd0 (zp (pv 1)) (xN (own:=[("byte",2)]) (by kernel_rfl)) (λ_ _ _ _ _=>jY (i:=2) nd0 rfl (Or.inl rfl)) (λ_ _ _ _ _=>Br)
    (λ_ _ _ _ _=>aU sY hr.lw (aa (pv 2) aK))) aK))))))),?_⟩
   refine⟨_,rfl,a,b,rfl,ha,λd p hd hdl hp=>?_⟩;rw[ajl hd]at q;have sm1:cZ H (bM H p (.cM (bv d))):=λc o e=>by rw[aM (aD e hp)];exact e
   have hl:bM H p (.cM (bv d)) p=some (.cM (bv d)):=aB;generalize bM H p (.cM (bv d))=H1 at sm1 hl;refine⟨_,rfl,p,bv d,rfl,.inl (fH.of hl),_,_,rfl,rfl,_,rfl,?_⟩;rw[cA];by_cases hz:(0:Int)<((d.length:Nat):Int)
   . rw[az hz,fK]at q;refine(show ite _ _ _ from ?_);rw[if_pos (by rw[az hz])];refine⟨_,rfl,p,rfl,⟨_,fH.of hl⟩,λD hD=>Rq (K:=K) (a:=p) (xs:=bv d) (λi H2=>cZ H1 H2/\H2 D=some (.cM ((d.take i).map λc=>V.bl (Ho c)))) ⟨λc o e=>by rw[aM (aD e hD)];exact e,aB⟩ (λi H2 _ z=>fH.of (z.1 _ _ hl)) ?_ ?_⟩
     . rintro i y H2 hi ⟨sm,hD2⟩;unfold bv at hi;rw[bA]at hi
       cases hc:d[i]? with
       |none=>rw[hc]at hi;cases hi
       |some c=>
        rw[hc]at hi
        cases hi;refine⟨rfl,_,rfl,c,rfl,_,hD2,?_,λc' o e=>?_,?_⟩
        . rw[aC,aY];exact iQ (cG (jr _ _) hdl) (by rw[bw];omega)
        . rw[aM (aD e hD)];exact sm c' o e
        . rw[aB,pq hc,dm];rfl
     . rintro H2 ⟨sm,hD2⟩;rw[cA,gh]at hD2;refine⟨D,d.map Ho,rfl,fH.of (by rw[gH];exact hD2),?_⟩
       exact q H2 (λc o e=>sm c o (sm1 c o e))
   . rw[aq hz,jd]at q;refine(show ite _ _ _ from ?_);rw[if_neg (by rw[aq hz];simp)]
     exact q H1 sm1
def ahm{A:Around}{k:Nat}(hr:pB k A):A.units+66<cLine:=by have:=hr.un;omega
def adk{A:Around}{k:Nat}(hr:pB k A):A.units+80<cLine:=by have:=hr.un;omega
def TxB(v:V)(b:Rb):Prop:=∃x:Str,v=.str x/\b.map (·.toNat)=x.cps.toList/\b.length<=1000
def BAR:List Rb:=["connection","keep-alive","proxy-connection","transfer-encoding","upgrade"].map Rc28.text
def ag4:Paired TxB [V.str "connection",V.str "keep-alive",V.str "proxy-connection",V.str "transfer-encoding",V.str "upgrade"] BAR:=
 .cons ⟨_,rfl,by decide +kernel,by decide +kernel⟩ (.cons ⟨_,rfl,by decide +kernel,by decide +kernel⟩ (.cons ⟨_,rfl,by decide +kernel,by decide +kernel⟩ (.cons ⟨_,rfl,by decide +kernel,by decide +kernel⟩ (.cons ⟨_,rfl,by decide +kernel,by decide +kernel⟩ .nil))))
def ajY:TxB (.str "te") (Rc28.text "te"):=⟨_,rfl,by decide +kernel,by decide +kernel⟩
def ZL:TxB (.str "trailers") (Rc28.text "trailers"):=⟨_,rfl,by decide +kernel,by decide +kernel⟩
def agL:TxB (.str ":path") (Rc28.text ":path"):=⟨_,rfl,by decide +kernel,by decide +kernel⟩
def We:TxB (.str ":authority") (Rc28.text ":authority"):=⟨_,rfl,by decide +kernel,by decide +kernel⟩
def agZ:List Rb:=[":method",":scheme",":path"].map Rc28.text
def afU:Paired TxB [V.str ":method",V.str ":scheme",V.str ":path"] agZ:=
 .cons ⟨_,rfl,by decide +kernel,by decide +kernel⟩ (.cons ⟨_,rfl,by decide +kernel,by decide +kernel⟩ (.cons ⟨_,rfl,by decide +kernel,by decide +kernel⟩ .nil))
def Be(a b:Rb):(a==b)=decide (a=b):=by
 rw[bR,je,bK]
def Yk(h:Rh):Rc28.goodPlain h=(lowName h.1&&(Rc28.goodValue h.2&&(!(BAR.any λz=>decide (z=h.1))&&((!decide (h.1=Rc28.text "te"))||decide (h.2=Rc28.text "trailers"))))):=by
 unfold Rc28.goodPlain;have e:BAR.contains h.1=BAR.any λz=>decide (z=h.1):=by
  rw[List.contains_eq_any_beq];congr 1;funext z;rw[Be,bR,bK,bK];exact eq_comm
 rw[show (["connection","keep-alive","proxy-connection","transfer-encoding","upgrade"].map Rc28.text).contains h.1=BAR.contains h.1 from rfl,e];rw[show (h.1 != Rc28.text "te") = !decide (h.1=Rc28.text "te") from by show (!(h.1==Rc28.text "te"))=_;rw[Be],Be h.2]
def U8.same{as:List Addr}{bs:List Rb}(l:U8 H as bs)(s:cZ H H'):U8 H' as bs:=bN l λ_ _ e=>s _ _ e
def oR.iV{A:Ad}{X:List Addr}{H H':Hp}{l:Addr}{hs:List Rh}(x:oR A X H l hs)(o:gm X H H')(hl:l∉X):oR A X H' l hs:=by
 obtain⟨as,h1,h2⟩:=x;exact⟨as,o _ _ h1 hl,bN h2 λ_ _ z=>z.iV o⟩
def oR.same{l:Addr}{hs:List Rh}(x:oR A X H l hs)(o:cZ H H'):oR A X H' l hs:=by
 obtain⟨as,h1,h2⟩:=x;exact⟨as,o _ _ h1,bN h2 λ_ _ z=>z.iV (cZ.iV o)⟩
theorem tL{α β:Type}{R:α->β->Prop}:∀{l:List α}{m:List β}{a:α}{b:β},Paired R l m->R a b->Paired R (l++[a]) (m++[b])
 |_,_,_,_,.nil,r=>.cons r .nil
 |_,_,_,_,.cons h t,r=>.cons h (tL t r)
inductive Made(H1:Hp)(D:Addr)(bs:List Rb)(H2:Hp):Prop
 |mk (_:cZ H1 H2) (as:_) (_:H2 D=some (.cM (as.map V.ref))) (_:U8 H2 as bs) (_:D∉as)
def Made.nil{H1:Hp}{D:Addr}(hD:H1 D=none):Made H1 D [] (bM H1 D (.cM [])):=⟨λc o e=>by rw[aM (aD e hD)];exact e,[],aB,.nil,λh=>nomatch h⟩
def Made.snoc{H3:Hp}{D p:Addr}{bs:List Rb}(m:Made H1 D bs H2)(hD:H1 D=none)(sm:cZ H2 H3)(hp:H3 p=some (.cM (bv b)))(hpD:p≠D):∃as:List Addr,H3 D=some (.cM (as.map V.ref))/\as.length=bs.length/\Made H1 D (bs++[b]) (bM H3 D (.cM (as.map V.ref++[.ref p]))):=by
 obtain⟨s1,as,h1,h2,h3⟩:=m;refine⟨as,sm _ _ h1,fj h2,λc o e=>by rw[aM (aD e hD)];exact sm _ _ (s1 _ _ e),as++[p],by rw[aB,dm];rfl,?_,?_⟩
 . refine tL ?_ (by rw[aM hpD];exact hp)
   have h2':U8 H3 as bs:=h2.same sm;clear h1 h2;generalize HO.cM (as.map V.ref++[.ref p])=ob;induction h2' with
   |nil=>exact .nil
   |cons r t ih=>exact .cons (by rw[aM (λe=>h3 (by rw[e];exact .head _))];exact r) (ih λh=>h3 (.tail _ h))
 . intro h;rcases dY.mp h with h|h
   . exact h3 h
   . exact hpD (ak.mp h).symm
inductive adM(A:Ad)(vs:List V)(H:Hp)(Q:VK)(_:XK):Prop
 |mk (X:List Addr) (a:Addr) (h:Rh) (_:vs=[.ref a]) (_:sU A X H a h) (_:∀H',cZ H H'->Q (.bl (Rc28.goodPlain h)) H')
def aa0(F:j5 K "is_plain" "is_plain" K7 f fd)(T:Txt K mg A)(yg:jQ P w K mg base "is_plain_name" dW 2 ["name"] Qj)(oh:jQ P w K mg base "is_plain_value" dW 1 ["value"] (ZC A))(dH:jQ P w K mg base "bytes_of_text" dW 1 ["text"] Li):dR P w K mg base dW 3 f fd ["header"] (adM A):=by
 refine F.mZ (N:=["header","name"]) (λ_ _ _ _ H _ _ _ hr h nd0=>?_)
 . obtain⟨X,a,h,rfl,hh,q⟩:=h;have hu64:=hr.units;obtain⟨dx,n,v,h1,h2,h3,_⟩:=id hh;refine⟨_,(ao (cV (uB (rY (iB (aU yg hr.lw (aa (aaO 0 rfl) aK)))) (rZ (rY (iB (aU oh hr.lw (aa (aaO 0 rfl) aK)))))).pt (aG (aZ qG)) bC)
    (ao (cV (bF (ajt (ahm hr)) (aaO 0 rfl) (T4 rfl nd0 (acs (cR T.R6)) (xN (own:=[("name",1)]) (by kernel_rfl)) (λ_ _ _ _ _=>jY (i:=1) nd0 rfl (Or.inl rfl)) (λ_ _ _ _ _=>Br)
      (λ_ _ _ _ _=>aU dH hr.lw (aa (pv 1) aK))) (by with_unfolding_all rfl)) (aG (aZ qG)) bC)
    (aG (aZ (adw (mL (afZ hu64) (aaO 0 rfl) (aU dH hr.lw (aa K5 aK)) (bO _)) (yw (mL (TF hu64) (aaO 0 rfl) (aU dH hr.lw (aa K5 aK)) (bO _)))))))),?_⟩
   rw[Yk]at q;refine⟨rfl,(by assumption),T.iK,T.gP,ir,n,h.1,rfl,h2,λH1 s1=>⟨_,rfl,?_⟩⟩;have h1':=s1 _ _ h1;have h2':=s1 _ _ h2;have h3':=s1 _ _ h3
   cases hn:lowName h.1 with
   |false=>
    refine cQ (cQ ?_);rw[hn]at q;exact q H1 s1
   |true=>
    rw[hn,fK]at q;refine cY ⟨rfl,h1',T.iK,T.jD,j7,v,h.2,rfl,h3',_,rfl,?_⟩
    cases hv:Rc28.goodValue h.2 with
    |false=>
     refine cQ ?_;rw[hv]at q;exact q H1 s1
    |true=>
     rw[hv,fK]at q;refine cY ?_;refine⟨rfl,h1',T.iK,T.gP,ir,A.za,rfl,⟨_,T.Ip H1⟩,λD hD=>afP (K:=K) (a:=A.za) (λi H2=>Made H1 D (BAR.take i) H2) (Made.nil hD) (λi H2 _ _=>T.Ip H2) ?_ ?_⟩
     . rintro i y H2 hi m;obtain⟨b,hb,x,rfl,hx1,hx2⟩:=L2.gW ag4 hi;refine⟨rfl,_,rfl,x,b,rfl,hx1,hx2,λp H3 hp hp3 sm=>?_⟩;have hpD:p≠D:=λe=>by subst e;obtain⟨_,as,e,_⟩:=m;rw[hp]at e;cases e
       obtain⟨as,e1,e2,e3⟩:=m.snoc hD sm hp3 hpD;refine⟨_,e1,?_,?_⟩
       . rw[aC,e2,aY];exact iQ (jr _ _) (by decide +kernel)
       . rw[pq hb];exact e3
     . rintro H2 ⟨sm,as,e1,e2,e3⟩;have s2:cZ H H2:=s1.trans sm;rw[show BAR.take (List.length _)=BAR from rfl]at e2;refine⟨n,D,h.1,as,BAR,rfl,sm _ _ h2',rfl,e1,e2,_,rfl,?_⟩;generalize (BAR.any λz=>decide (z=h.1))=bb at q
       cases bb with
       |true=>exact cQ (q H2 s2)
       |false=>
        refine cY ?_;rw[Bool.not_false,fK]at q;obtain⟨x1,ex1,hx1,hl1⟩:=ajY;obtain⟨x2,ex2,hx2,hl2⟩:=ZL
        cases ex1
        cases ex2;dsimp only[J0,Dn];refine⟨rfl,sm _ _ h1',T.iK,T.gP,ir,_,_,rfl,hx1,hl1,λp H3 hp hp3 s3=>?_⟩;have h13:=s3 _ _ (sm _ _ h1');refine neB (fH.of (s3 _ _ (sm _ _ h2'))) (fH.of hp3) ⟨_,rfl,?_⟩;generalize hc:decide (h.1=Rc28.text "te")=cc at q ⊢
        cases cc with
        |false=>
         refine cQ ?_;exact q H3 (s2.trans s3)
        |true=>
         refine cY ?_;refine⟨rfl,h13,T.iK,T.jD,j7,_,_,rfl,hx2,hl2,λp' H4 hp' hp4 s4=>?_⟩;exact eqB (fH.of (s4 _ _ (s3 _ _ (sm _ _ h3')))) (fH.of hp4) (q H4 ((s2.trans s3).trans s4))
def Lz{α:Type}{p:α->Bool}{hs:List α}{h:α}(hi:hs[i]? = some h)(hp:p h=false):hs.all p=false:=by
 cases e:hs.all p with
 |false=>rfl
 |true=>
  rw[iT]at e;have:=e h (cD hi);rw[hp]at this;cases this
def CK{α:Type}{p:α->Bool}{hs:List α}{h:α}(hi:hs[i]? = some h)(hp:p h=true)(ht:(hs.take i).all p=true):(hs.take (i+1)).all p=true:=by
 rw[pq hi,List.all_append,ht,jK,hp];rfl
inductive Aq(A:Ad)(vs:List V)(H:Hp)(Q:VK)(_:XK):Prop
 |mk (X:List Addr) (l:Addr) (hs:List Rh) (_:vs=[.ref l]) (_:oR A X H l hs) (_:∀H',cZ H H'->Q (.bl (hs.all Rc28.goodPlain)) H')
def QR(F:j5 K "are_trailers" "are_trailers" z8 f fd)(T:Txt K mg A)(J4:jQ P w K mg base "is_plain" dW 3 ["header"] (adM A)):dR P w K mg base dW 4 f fd ["headers"] (Aq A):=by
 refine F.mZ (N:=["headers","header"]) (λ_ _ _ _ H _ _ _ hr h nd0=>?_)
 . obtain⟨X,l,hs,rfl,hh,q⟩:=h;refine⟨_,(ao (wj b8 rfl (zp (pv 0)) (jY (i:=1) nd0 rfl (Or.inl rfl)) (aG (cV (rY (iB (aU J4 hr.lw (aa (pv 1) aK)))) (aG (aZ qG)) bC)))
    (aG (aZ qG))),?_⟩
   obtain⟨as,hl,hp⟩:=id hh;refine⟨_,rfl,l,rfl,⟨_,fH.of hl⟩,Hd (K:=K) (a:=l) (xs:=as.map V.ref) (λi σ H2=>(∃v:Option V,σ=[some (.ref l),v])/\cZ H H2/\(hs.take i).all Rc28.goodPlain=true)
    ⟨⟨none,rfl⟩,λ_ _ e=>e,rfl⟩ (λi σ H2 _ z=>fH.of (z.2.1 _ _ hl)) ?_ ?_⟩
   . rintro i y σ H2 hi ⟨⟨v,rfl⟩,sm,ht⟩;obtain⟨a,ha,rfl⟩:=BW hi;obtain⟨h,hhi,hd⟩:=L2.gW hp ha;refine⟨_,rfl,X,a,h,rfl,hd.iV (cZ.iV sm),λH3 s3=>⟨_,rfl,?_⟩⟩
     cases hg:Rc28.goodPlain h with
     |false=>
      refine cQ ?_;rw[Lz hhi hg]at q;exact q H3 (sm.trans s3)
     |true=>
      refine cY ?_;exact⟨⟨_,rfl⟩,sm.trans s3,CK hhi hg ht⟩
   . rintro σ H2 ⟨⟨v,rfl⟩,sm,ht⟩;rw[aC,fj hp,gh]at ht;rw[ht]at q;exact q H2 sm
def Oh(h:Rh):Bool:=Rc28.goodValue h.2&&(h.1 != Rc28.text ":path"||!h.2.isEmpty)
inductive adP(A:Ad)(vs:List V)(H:Hp)(Q:VK)(_:XK):Prop
 |mk (X:List Addr) (l:Addr) (hs:List Rh) (_:vs=[.ref l]) (_:oR A X H l hs) (_:∀H',cZ H H'->Q (.bl (hs.all Oh)) H')
def Hs(F:j5 K "have_right_values" "have_right_values" uM f fd)(T:Txt K mg A)(oh:jQ P w K mg base "is_plain_value" dW 1 ["value"] (ZC A))(dH:jQ P w K mg base "bytes_of_text" dW 1 ["text"] Li):dR P w K mg base dW 2 f fd ["headers"] (adP A):=by
 refine F.mZ (N:=["headers","header"]) (λ_ _ _ _ H _ _ _ hr h nd0=>?_)
 . obtain⟨X,l,hs,rfl,hh,q⟩:=h;have hu64:=hr.units;refine⟨_,(ao (wj b8 rfl (zp (pv 0)) (jY (i:=1) nd0 rfl (Or.inl rfl)) (ao (cV (rY (iB (aU oh hr.lw (aa (aaO 1 rfl) aK)))) (aG (aZ qG)) bC)
    (aG (cV (Hw (bF (TF hu64) (aaO 1 rfl) (aU dH hr.lw (aa K5 aK)) (bO _)) (Bs (bF pI (bV bc (by rfl) T.gO aO (aa (aaO 1 rfl) aK)) bx (bO _)))).pt (aG (aZ qG)) bC))))
    (aG (aZ qG))),?_⟩
   obtain⟨as,hl,hp⟩:=id hh;refine⟨_,rfl,l,rfl,⟨_,fH.of hl⟩,Hd (K:=K) (a:=l) (xs:=as.map V.ref) (λi σ H2=>(∃v:Option V,σ=[some (.ref l),v])/\cZ H H2/\(hs.take i).all Oh=true)
    ⟨⟨none,rfl⟩,λ_ _ e=>e,rfl⟩ (λi σ H2 _ z=>fH.of (z.2.1 _ _ hl)) ?_ ?_⟩
   . rintro i y σ H2 hi ⟨⟨v,rfl⟩,sm,ht⟩;obtain⟨a,ha,rfl⟩:=BW hi;obtain⟨h,hhi,hd⟩:=L2.gW hp ha;obtain⟨dx,n,v,h1,h2,h3,_⟩:=hd.iV (cZ.iV sm);refine⟨rfl,h1,T.iK,T.jD,j7,v,h.2,rfl,h3,_,rfl,?_⟩
     cases hg:Rc28.goodValue h.2 with
     |false=>
      refine cQ ?_;rw[Lz hhi (by unfold Oh;rw[hg];rfl)]at q
      exact q H2 sm
     |true=>
      refine cY ?_;obtain⟨x1,ex1,hx1,hl1⟩:=agL
      cases ex1;dsimp only[J0,Dn];refine⟨rfl,h1,T.iK,T.gP,ir,_,_,rfl,hx1,hl1,λp H3 hp3' hp3 s3=>?_⟩;refine eqB (fH.of (s3 _ _ h2)) (fH.of hp3) ⟨_,rfl,?_⟩;have e:Oh h=(!decide (h.1=Rc28.text ":path")||!h.2.isEmpty):=by
       unfold Oh;rw[hg,fK];show (!(h.1==_)||_)=_;rw[Be]
      generalize hc:decide (h.1=Rc28.text ":path")=cc at e ⊢
      cases cc with
      |false=>
       refine cY ?_;exact⟨⟨_,rfl⟩,sm.trans s3,CK hhi (by rw[e];rfl) ht⟩
      |true=>
       refine cQ ?_;refine⟨rfl,s3 _ _ h1,T.iK,T.jD,j7,v,bv h.2,rfl,.inl (fH.of (s3 _ _ h3)),rfl,_,rfl,?_⟩;have e2:decide (V.int ((bv h.2).length:Int)=V.int 0)=h.2.isEmpty:=by
        rw[cA]
        cases h.2 with
        |nil=>rfl
        |cons c r=>simp;omega
       rw[e2]
       cases he:h.2.isEmpty with
       |true=>
        refine cQ ?_;rw[Lz hhi (by rw[e,he];rfl)]at q
        exact q H3 (sm.trans s3)
       |false=>
        refine cY ?_;exact⟨⟨_,rfl⟩,sm.trans s3,CK hhi (by rw[e,he];rfl) ht⟩
   . rintro σ H2 ⟨⟨v,rfl⟩,sm,ht⟩;rw[aC,fj hp,gh]at ht;rw[ht]at q;exact q H2 sm
def Gm(hs:List Rh)(b:Rb):Nat:=(hs.map (·.1)).countP λz=>decide (z=b)
def DY(hs:List Rh)(n:String):Rc28.count hs n=Gm hs (Rc28.text n):=by
 unfold Rc28.count Gm;rw[List.countP_map,<-List.countP_eq_length_filter];congr 1;funext h;show (h.1==_)=decide (h.1=_)
 exact Be _ _
def WM(hs:List Rh):Oc hs=(agZ.all (λb=>decide (Gm hs b=1))&&(decide (Gm hs (Rc28.text ":authority")<=1)&&(decide (hs.length=3+Gm hs (Rc28.text ":authority"))&&hs.all Oh))):=by
 unfold Oc;rw[DY,DY,DY,DY];show _=(((decide (Gm hs (Rc28.text ":method")=1)&&(decide (Gm hs (Rc28.text ":scheme")=1)&&(decide (Gm hs (Rc28.text ":path")=1)&&true)))&&_))
 generalize decide (Gm hs (Rc28.text ":method")=1)=a;generalize decide (Gm hs (Rc28.text ":scheme")=1)=b;generalize decide (Gm hs (Rc28.text ":path")=1)=c
 cases a<;>cases b<;>cases c<;>rfl
theorem ZK{α:Type}{p:α->Bool}:∀{l:List α}{i:Nat},(l.take i).all p=true->(l.length<=i\/∃h,l[i]? = some h/\p h=false)->l.takeWhile p=l.take i
 |[],i,_,_=>by simp
 |a::l,0,_,h=>by
  rcases h with h|⟨x,hx,hp⟩
  . simp at h
  . cases hx;rw[List.takeWhile_cons,hp];rfl
 |a::l,i+1,h,h2=>by
  rw[List.take_succ_cons,jK,bQ]at h;rw[List.takeWhile_cons,h.1,if_pos rfl,List.take_succ_cons,ZK h.2];rcases h2 with h2|⟨x,hx,hp⟩
  . exact .inl (by simpa using h2)
  . exact .inr ⟨x,hx,hp⟩
def NZ(h:i<=xs.length):sV xs none (some (i:Int))=xs.take i:=by
 unfold sV;have e2:HT.uX xs.length xs.length (some (i:Int))=i:=by rw[HT.Jc];omega
 have e1:HT.uX xs.length 0 none=0:=rfl;rw[e1,e2];rfl
def Hb(h:i<=xs.length):sV xs (some (i:Int)) none=xs.drop i:=by
 unfold sV;have e1:HT.uX xs.length 0 (some (i:Int))=i:=by rw[HT.Jc];omega
 have e2:HT.uX xs.length xs.length none=xs.length:=rfl;rw[e1,e2,jO (by rw[bu];exact aH _)]
theorem Qa{α β:Type}{R:α->β->Prop}:∀{l:List α}{m:List β}(i:Nat),Paired R l m->Paired R (l.take i) (m.take i)
 |_,_,0,_=>.nil
 |_,_,_+1,.nil=>.nil
 |_,_,i+1,.cons r t=>.cons r (Qa i t)
theorem PX{α β:Type}{R:α->β->Prop}:∀{l:List α}{m:List β}(i:Nat),Paired R l m->Paired R (l.drop i) (m.drop i)
 |_,_,0,h=>h
 |_,_,_+1,.nil=>.nil
 |_,_,i+1,.cons r t=>PX i t
inductive acG(A:Ad)(vs:List V)(H:Hp)(Q:VK)(_:XK):Prop
 |mk (X:List Addr) (l:Addr) (hs:List Rh) (_:vs=[.ref l]) (_:oR A X H l hs) (_:hs.length<=100000) (_:∀H',cZ H H'->Q (.bl (Oc hs)) H')
def Ei(F:j5 K "are_leading_headers" "are_leading_headers" sr f fd)(T:Txt K mg A)(uE:jQ P w K mg base "have_right_values" dW 2 ["headers"] (adP A))(dH:jQ P w K mg base "bytes_of_text" dW 1 ["text"] Li):dR P w K mg base dW 3 f fd ["headers"] (acG A):=by
 refine F.mZ (N:=["headers","names","header","text","authorities"]) (λ_ _ _ _ H _ _ _ hr h nd0=>?_)
 . obtain⟨X,l,hs,rfl,hh,jB,q⟩:=h;refine⟨_,(ao (agd (i:=1) (te:=tFv K 2 "name") rfl nd0 rfl rfl rfl (zp (pv 0)) (xN (own:=[("header",2)]) (by kernel_rfl)) (λ_ _ _ _ _=>jY (i:=2) nd0 rfl (Or.inl rfl)) (λ_ _ _ _ _=>Br) (λ_ _ _ _ _=>aaO 2 rfl))
    (ao (wj b8 rfl (acs (cR T.JP)) (jY (i:=3) nd0 rfl (Or.inl rfl)) (aG (cV (bF uA (uR bB oM PySem.F.type_list_count (WQ (adk hr)) (pv 1) (aa (aU dH hr.lw (aa (pv 3) aK)) aK)) bx (bO _)) (aG (aZ qG)) bC)))
    (ao (cB (i:=4) nd0 rfl (Or.inl rfl) (uR bB oM PySem.F.type_list_count (WQ (adk hr)) (pv 1) (aa (aU dH hr.lw (aa K5 aK)) aK)))
    (ao (cV (uB (bF qF (pv 4) bx (bO _)) (rZ (bF uA (bV bc (by rfl) T.gO aO (aa (pv 1) aK)) (iW oG (bV bc (by rfl) T.gO aO (aa (cR T.JP) aK)) (pv 4)) (bO _)))).pt (aG (aZ qG)) bC)
    (aG (aZ (aU uE hr.lw (aa (pv 0) aK)))))))),?_⟩
   obtain⟨as,hl,hp⟩:=id hh;have hla:=fj hp;refine⟨_,rfl,l,rfl,⟨_,fH.of hl⟩,λD hD=>Rq (K:=K) (a:=l) (xs:=as.map V.ref) (λi H2=>Made H D ((hs.map (·.1)).take i) H2) (Made.nil hD) (λi H2 _ z=>fH.of (z.1 _ _ hl)) ?_ ?_⟩
   . rintro i y H2 hi m;obtain⟨a,ha,rfl⟩:=BW hi;obtain⟨h,hhi,hd⟩:=L2.gW hp ha;obtain⟨dx,n,v,h1,h2,h3,_⟩:=id hd;have hnD:n≠D:=λe=>by subst e;rw[hD]at h2;cases h2
     obtain⟨bs,e1,e2,e3⟩:=m.snoc hD (λ_ _ e=>e) (m.1 _ _ h2) hnD;refine⟨rfl,rfl,m.1 _ _ h1,T.iK,T.gP,ir,_,e1,?_,?_⟩
     . rw[aC,e2,aY,aC];exact iQ (cG (jr _ _) jB) (by decide +kernel)
     . rw[pq (c:=h.1) (by rw[bA,hhi];rfl)];exact e3
   . rintro H1 ⟨s1,ns,n1,n2,n3⟩;rw[aC,hla,show hs.length=(hs.map (·.1)).length from (aC _).symm,gh]at n2;dsimp only[Dq,J0,Dn];refine⟨_,rfl,⟨_,T.Cv H1⟩,ahj (K:=K) (a:=A.GQ) (λi σ H2=>(∃v2 v3:Option V,σ=[some (.ref l),some (.ref D),v2,v3,none])/\cZ H1 H2/\(agZ.take i).all (λb=>decide (Gm hs b=1))=true) ⟨⟨_,_,rfl⟩,λ_ _ e=>e,rfl⟩ (λi σ H2 _ z=>T.Cv H2) ?_ ?_⟩
     . rintro i y σ H2 hi ⟨⟨v2,v3,rfl⟩,s2,ht⟩;obtain⟨b,hb,x,rfl,hx1,hx2⟩:=L2.gW afU hi;refine⟨_,rfl,.inl ⟨rfl,_,fH.of (s2 _ _ n1)⟩,_,rfl,x,b,rfl,hx1,hx2,λp H3 hp3 hp4 s3=>?_⟩;refine⟨p,D,b,ns,hs.map (·.1),rfl,rfl,hp4,s3 _ _ (s2 _ _ n1),(n2.same s2).same s3,rfl,_,rfl,?_⟩;show if (!decide (V.int (Gm hs b:Int)=V.int 1))=true then _ else _
       by_cases hc:Gm hs b=1
       . rw[hc,show (!decide (V.int ((1:Nat):Int)=V.int 1))=false from rfl];refine cY ?_;exact⟨⟨_,_,rfl⟩,s2.trans s3,CK hb (az hc) ht⟩
       . have e:(!decide (V.int (Gm hs b:Int)=V.int 1))=true:=by
          simp only[V.int.injEq,mX,gr];omega
         rw[e];refine cQ ?_;rw[WM,Lz hb (aq hc)]at q;exact q H3 ((s1.trans s2).trans s3)
     . rintro σ H2 ⟨⟨v2,v3,rfl⟩,s2,ht⟩;rw[WM,show agZ.all (λb=>decide (Gm hs b=1))=true from ht,fK]at q;obtain⟨x1,ex1,hx1,hl1⟩:=We
       cases ex1;refine⟨_,rfl,.inl ⟨rfl,_,fH.of (s2 _ _ n1)⟩,_,_,rfl,hx1,hl1,λp H3 hp3 hp4 s3=>?_⟩;refine⟨p,D,_,ns,hs.map (·.1),rfl,rfl,hp4,s3 _ _ (s2 _ _ n1),(n2.same s2).same s3,?_⟩;show Dq _ _ _ [some (.ref l),some (.ref D),v2,v3,some (.int (Gm hs (Rc28.text ":authority"):Int))] H3
       have s13:=(s1.trans s2).trans s3;generalize Gm hs (Rc28.text ":authority")=au at q;dsimp only[Dq,J0,Dn];refine⟨_,rfl,_,_,rfl,rfl,_,rfl,?_⟩;by_cases h1:au<=1
       . rw[show decide ((au:Int)>1)=false from aq (by omega)];rw[az h1,fK]at q;refine cY ?_;have hnl:ns.length=hs.length:=by rw[fj n2,aC]
         refine⟨_,rfl,D,ns.map V.ref,rfl,.inl (fH.of (s3 _ _ (s2 _ _ n1))),_,_,rfl,.inr (T.Cv H3),_,rfl,_,_,rfl,rfl,rfl,_,rfl,?_⟩;by_cases h2:hs.length=3+au
         . rw[az h2,fK]at q;have e:(!decide (V.int ((ns.map V.ref).length:Int)=V.int (((3:Nat):Int)+(au:Int))))=false:=by
            rw[aC,hnl];simp only[V.int.injEq,Bool.not_eq_false',bK];omega
           show if (!decide (V.int ((ns.map V.ref).length:Int)=V.int (((3:Nat):Int)+(au:Int))))=true then _ else _
           rw[e];refine cY ?_;exact⟨_,rfl,X,l,hs,rfl,hh.same s13,λH4 s4=>q H4 (s13.trans s4)⟩
         . rw[aq h2,jd]at q;have e:(!decide (V.int ((ns.map V.ref).length:Int)=V.int (((3:Nat):Int)+(au:Int))))=true:=by
            rw[aC,hnl];simp only[V.int.injEq,mX,gr];omega
           show if (!decide (V.int ((ns.map V.ref).length:Int)=V.int (((3:Nat):Int)+(au:Int))))=true then _ else _
           rw[e];exact cQ (q H3 s13)
       . rw[aq h1,jd]at q;rw[show decide ((au:Int)>1)=true from az (by omega)];exact cQ (cQ (q H3 s13))
inductive W6(A:Ad)(vs:List V)(H:Hp)(Q:VK)(_:XK):Prop
 |mk (X:List Addr) (l:Addr) (hs:List Rh) (_:vs=[.ref l]) (_:oR A X H l hs) (_:hs.length<=100000) (_:∀H',cZ H H'->Q (.bl (Rc28.goodRequest hs)) H')
def Ej(F:j5 K "are_request_headers" "are_request_headers" su f fd)(T:Txt K mg A)(uC:jQ P w K mg base "begins_with_colon" dW 1 ["header"] (adI A))(rP:jQ P w K mg base "are_leading_headers" dW 3 ["headers"] (acG A))(lA:jQ P w K mg base "are_trailers" dW 4 ["headers"] (Aq A)):dR P w K mg base dW 5 f fd ["headers"] (W6 A):=by
 refine F.mZ (N:=["headers","leading"]) (λ_ _ _ _ H _ Q _ hr h nd0=>?_)
 . obtain⟨X,l,hs,rfl,hh,jB,q⟩:=h;refine⟨_,(ao (cB (i:=1) nd0 rfl (Or.inl rfl) bx)
    (ao (De b8 (Hw (bF yS (pv 1) (bV bc (by rfl) T.gO aO (aa (pv 0) aK)) (bO _)) (Bs (iB (aU uC hr.lw (aa (vU pZ (pv 0) (pv 1) (λ_ _=>rfl)) aK))))).pt (aG (MN (i:=1) nd0 rfl (Or.inl rfl) Rp bx)))
    (aG (aZ (Eo (aU rP hr.lw (aa (jz lG (pv 0) uW (iu (pv 1))) aK)) (yw (aU lA hr.lw (aa (jz lG (pv 0) (iu (pv 1)) uW) aK)))))))),?_⟩
   obtain⟨as,hl,hp⟩:=id hh;have hla:=fj hp;refine⟨λm σ H2=>∃i,m=hs.length-i/\i<=hs.length/\σ=[some (.ref l),some (.int (i:Int))]/\H2=H/\(hs.take i).all Rc28.isPseudo=true,⟨_,0,rfl,bW _,rfl,rfl,rfl⟩,?_⟩;have fin:∀i,i<=hs.length->hs.takeWhile Rc28.isPseudo=hs.take i->Dn (agG (uc (acG A) [] E0 (fG (tSl (agi K) (iw 0) RB (Xb (iw 1))) oO)) (uc (Aq A) [] E0 (fG (tSl (agi K) (iw 0) (Xb (iw 1)) RB) oO))) {nx:=λx H'=>Q V.non H',rt:=Q} [some (.ref l),some (.int (i:Int))] H:=by
    intro i hi htw;rw[Yt,htw,aY,Nat.min_eq_left hi]at q;dsimp only[Dn];have hi':i<=(as.map V.ref).length:=by rw[aC,hla];exact hi
    refine⟨_,rfl,_,rfl,i,rfl,l,as.map V.ref,rfl,fH.of hl,λp hp0=>?_⟩;have sm:cZ H (bM H p (.cM (sV (as.map V.ref) none (some (i:Int))))):=λc o e=>by rw[aM (aD e hp0)];exact e
    have hp1:bM H p (.cM (sV (as.map V.ref) none (some (i:Int)))) p=some (.cM ((as.take i).map V.ref)):=by rw[aB,NZ hi',List.map_take]
    generalize bM H p (.cM (sV (as.map V.ref) none (some (i:Int))))=H1 at sm hp1;refine⟨X,p,hs.take i,rfl,⟨_,hp1,bN (Qa i hp) λ_ _ z=>z.iV (cZ.iV sm)⟩,by rw[aY];exact cG (jr _ _) jB,λH2 s2=>⟨_,rfl,?_⟩⟩
    have s12:=sm.trans s2
    cases hl1:Oc (hs.take i) with
    |false=>
     rw[hl1,jd]at q;exact cY (q H2 s12)
    |true=>
     rw[hl1,fK]at q;refine cQ ?_;refine⟨_,rfl,_,rfl,i,rfl,l,as.map V.ref,rfl,fH.of (s12 _ _ hl),λp' hp0'=>?_⟩;have sm':cZ H2 (bM H2 p' (.cM (sV (as.map V.ref) (some (i:Int)) none))):=λc o e=>by rw[aM (aD e hp0')];exact e
     have hp1':bM H2 p' (.cM (sV (as.map V.ref) (some (i:Int)) none)) p'=some (.cM ((as.drop i).map V.ref)):=by rw[aB,Hb hi',List.map_drop]
     generalize bM H2 p' (.cM (sV (as.map V.ref) (some (i:Int)) none))=H3 at sm' hp1';exact⟨X,p',hs.drop i,rfl,⟨_,hp1',bN (PX i hp) λ_ _ z=>z.iV (cZ.iV (s12.trans sm'))⟩,λH4 s4=>q H4 ((s12.trans sm').trans s4)⟩
   rintro m σ H2 ⟨i,rfl,hi,rfl,rfl,ht⟩;refine⟨_,rfl,_,rfl,_,_,rfl,.inl (fH.of hl),_,_,rfl,rfl,_,rfl,?_⟩;rw[aC,hla];by_cases hlt:i<hs.length
   . rw[show decide ((i:Int)<(hs.length:Int))=true from az (by omega)];refine cQ ?_;have hai:i<as.length:=by omega
     have ha:as[i]? = some as[i]:=bf hai;obtain⟨h,hhi,hd⟩:=L2.gW hp ha;refine⟨_,rfl,_,rfl,l,as.map V.ref,i,.ref as[i],rfl,rfl,fH.of hl,jN (j:=i) rfl (by rw[bA,ha];rfl),X,as[i],h,rfl,hd,_,rfl,?_⟩
     cases hps:Rc28.isPseudo h with
     |false=>
      refine cY ?_;exact fin i hi (ZK ht (.inr ⟨h,hhi,hps⟩))
     |true=>
      refine cQ ⟨λσ' H'=>∃j,j=i+1/\σ'=[some (.ref l),some (.int (j:Int))]/\H'=H2,?_,?_⟩
      . rintro σ' H' ⟨j,rfl,rfl,rfl⟩;exact⟨hs.length-(i+1),by omega,i+1,rfl,hlt,rfl,rfl,CK hhi hps ht⟩
      . exact⟨_,rfl,_,_,rfl,rfl,i+1,rfl,rfl,rfl⟩
   . rw[show decide ((i:Int)<(hs.length:Int))=false from aq (by omega)];exact cY (cY (fin i hi (ZK ht (.inl (by omega)))))
inductive agA(A:Ad)(vs:List V)(H:Hp)(Q:VK)(_:XK):Prop
 |mk (a:Addr) (k f s:Nat) (bd:Addr) (b:Rb) (_:vs=[.ref a]) (_:Xm A H a k f s bd) (_:f<256) (_:H bd=some (.cM (bv b))) (_:(∀(d:Rb)(p:Addr)(H':Hp),Rc28.unpadded f b=some d->(p=bd\/H p=none)->H' p=some (.cM (bv d))->cZ H H'->Q (.ref p) H')) (_:(Rc28.unpadded f b=none->Q .non H))
def KY(F:j5 K "without_padding" "without_padding" wD f fd)(T:Txt K mg A)(dw:rC P w K mg base A.sZ "has_set" dW 1 ["self","bit"] (uV A)):dR P w K mg base dW 2 f fd ["frame"] (agA A):=by
 refine F.mZ (N:=["frame"]) (λ_ _ _ s H _ _ _ hr h _=>?_)
 . obtain⟨a,k,f,s,bd,b,rfl,hfr,hf,hb,q1,q2⟩:=h;refine⟨_,(ao (cV (rY (iB (nJ T.cO (pv 0) dw hr.lw lU (aa (cR T.afe) aK)))) (aG (aZ (aaO 0 rfl))) bC)
    (ao (cV (uB (bF pI (bV bc (by rfl) T.gO aO (aa (aaO 0 rfl) aK)) bx (bO _)) (rZ (bF qF (vU pZ (aaO 0 rfl) bx (λ_ _=>rfl)) (iW Em (bV bc (by rfl) T.gO aO (aa (aaO 0 rfl) aK)) bx) (bO _)))).pt (aG (aZ yu)) bC)
    (aG (aZ (jz lG (aaO 0 rfl) (iu bx) (iu (iW Em (bV bc (by rfl) T.gO aO (aa (aaO 0 rfl) aK)) (vU pZ (aaO 0 rfl) bx (λ_ _=>rfl))))))))),?_⟩
   obtain⟨dx,ha⟩:=id hfr;refine⟨_,rfl,_,_,_,rfl,ha,kh,a,k,f,s,8,bd,rfl,hfr,hf,.inr (.inr (.inl rfl)),_,rfl,?_⟩;by_cases h8:f / 8%2=1
   . rw[az h8];refine cY ?_;refine⟨rfl,ha,T.cO,T.eZ,fD,_,_,rfl,.inl (fH.of hb),rfl,_,rfl,?_⟩;have h80:¬f / 8%2=0:=by omega
     cases b with
     |nil=>
      refine cQ (cQ ?_);exact q2 (by unfold Rc28.unpadded;rw[if_neg h80])
     |cons c r=>
      have e0:decide (V.int ((bv (c::r)).length:Int)=V.int 0)=false:=by
       rw[cA];simp;omega
      rw[e0];refine cY ?_;refine⟨rfl,ha,T.cO,T.eZ,fD,_,_,_,_,rfl,rfl,fH.of hb,jN (j:=0) rfl rfl,rfl,ha,T.cO,T.eZ,fD,_,_,rfl,.inl (fH.of hb),_,_,rfl,rfl,_,_,rfl,rfl,_,rfl,?_⟩;have e1:decide ((c.toNat:Int)>((bv (c::r)).length:Int)-1)=decide (r.length<c.toNat):=by
       rw[cA,bj];congr 1;exact propext ⟨λh=>by omega,λh=>by omega⟩
      rw[e1];by_cases hc:r.length<c.toNat
      . rw[az hc];refine cQ ?_;exact q2 (by unfold Rc28.unpadded;rw[if_neg h80];dsimp only;rw[if_pos hc])
      . rw[aq hc];refine cY ?_;refine⟨rfl,ha,T.cO,T.eZ,fD,_,rfl,rfl,ha,T.cO,T.eZ,fD,_,_,rfl,.inl (fH.of hb),rfl,ha,T.cO,T.eZ,fD,_,_,_,_,rfl,rfl,fH.of hb,jN (j:=0) rfl rfl,_,_,rfl,rfl,_,rfl,_,_,rfl,fH.of hb,λp hp=>?_⟩;have e2:sV (bv (c::r)) (some 1) (some (((bv (c::r)).length:Int)-(c.toNat:Int)))=bv (r.take (r.length-c.toNat)):=by
         have hz:(((bv (c::r)).length:Nat):Int)-(c.toNat:Int)=((1:Nat):Int)+((r.length-c.toNat:Nat):Int):=by
          rw[cA,bj];omega
         rw[hz,show (some (1:Int))=some (((1:Nat):Int)) from rfl,NT (by rw[cA,bj];omega),pY]
         rfl
        rw[e2];exact q1 _ p _ (by unfold Rc28.unpadded;rw[if_neg h80];dsimp only;rw[if_neg hc]) (.inr hp) aB λx o e=>by rw[aM (aD e hp)];exact e
   . rw[aq h8];refine cQ ?_;refine⟨rfl,ha,T.cO,T.eZ,fD,?_⟩;exact q1 b bd H (by unfold Rc28.unpadded;rw[if_pos (by omega)]) (.inl rfl) hb λ_ _ e=>e
structure ym where
 kind:Int
 stream:Int
 zg:Bool
 code:Int
 headers:Addr
 body:Addr
def pH(r:ym):List (Str×V):=adf r.kind r.stream r.zg r.code r.headers r.body
def xH{r:ym}:(pH r).lookup ("kind":Str)=some (V.int r.kind):=by kernel_rfl
def QL{r:ym}:(pH r).lookup ("stream":Str)=some (V.int r.stream):=by kernel_rfl
def Od{r:ym}:(pH r).lookup ("no_more":Str)=some (V.bl r.zg):=by kernel_rfl
def Vt{r:ym}:(pH r).lookup ("code":Str)=some (V.int r.code):=by kernel_rfl
def wW{r:ym}:(pH r).lookup ("headers":Str)=some (V.ref r.headers):=by kernel_rfl
def O2{r:ym}{x:Addr}:kY "headers" (V.ref x) (pH r)=pH {r with headers:=x}:=by kernel_rfl
def BR{r:ym}:(pH r).lookup ("body":Str)=some (V.ref r.body):=by kernel_rfl
def V0{r:ym}{x:Addr}:kY "body" (V.ref x) (pH r)=pH {r with body:=x}:=by kernel_rfl
def abt{r:ym}:(pH r).length<1000:=aic
def afw{r:ym}:(pH r).map (·.1)=(["kind","stream","no_more","code","headers","body"]:List Str):=rfl
structure zb where
 window:Int
 jH:Bool
 jn:Bool
def gV(r:zb):List (Str×V):=aaI r.window r.jH r.jn
def qp{r:zb}:(gV r).lookup ("window":Str)=some (V.int r.window):=by kernel_rfl
def wY{r:zb}:kY "window" (V.int x) (gV r)=gV {r with window:=x}:=by kernel_rfl
def qm{r:zb}:(gV r).lookup ("more_may_come":Str)=some (V.bl r.jH):=by kernel_rfl
def vV{r:zb}{x:Bool}:kY "more_may_come" (V.bl x) (gV r)=gV {r with jH:=x}:=by kernel_rfl
def tH{r:zb}:(gV r).lookup ("answer_has_begun":Str)=some (V.bl r.jn):=by kernel_rfl
def zY{r:zb}{x:Bool}:kY "answer_has_begun" (V.bl x) (gV r)=gV {r with jn:=x}:=by kernel_rfl
def zz{r:zb}:(gV r).length<1000:=agR
def aei{r:zb}:(gV r).map (·.1)=(["window","more_may_come","answer_has_begun"]:List Str):=rfl
structure gM where
 gR:Int
 di:Addr
 dX:Bool
 gC:V
 failed:Bool
 highest:Int
 streams:Addr
 window:Int
 fC:Int
 table:Addr
 gn:Bool
 dU:Addr
 gD:Addr
 bU:Int
 eE:Addr
def bI(r:gM):List (Str×V):=afy r.gR r.di r.dX r.gC r.failed r.highest r.streams r.window r.fC r.table r.gn r.dU r.gD r.bU r.eE
def pM{r:gM}:(bI r).lookup ("first_bytes_come":Str)=some (V.int r.gR):=by kernel_rfl
def BV{r:gM}:kY "first_bytes_come" (V.int x) (bI r)=bI {r with gR:=x}:=by kernel_rfl
def Ju{r:gM}:(bI r).lookup ("frame_bytes":Str)=some (V.ref r.di):=by kernel_rfl
def JD{r:gM}{x:Addr}:kY "frame_bytes" (V.ref x) (bI r)=bI {r with di:=x}:=by kernel_rfl
def zQ{r:gM}:(bI r).lookup ("settings_have_come":Str)=some (V.bl r.dX):=by kernel_rfl
def zX{r:gM}{x:Bool}:kY "settings_have_come" (V.bl x) (bI r)=bI {r with dX:=x}:=by kernel_rfl
def qM{r:gM}:(bI r).lookup ("open_block":Str)=some (r.gC):=by kernel_rfl
def zW{r:gM}{x:V}:kY "open_block" (x) (bI r)=bI {r with gC:=x}:=by kernel_rfl
def tG{r:gM}:(bI r).lookup ("failed":Str)=some (V.bl r.failed):=by kernel_rfl
def T7{r:gM}{x:Bool}:kY "failed" (V.bl x) (bI r)=bI {r with failed:=x}:=by kernel_rfl
def yr{r:gM}:(bI r).lookup ("highest":Str)=some (V.int r.highest):=by kernel_rfl
def Q5{r:gM}:kY "highest" (V.int x) (bI r)=bI {r with highest:=x}:=by kernel_rfl
def eN{r:gM}:(bI r).lookup ("streams":Str)=some (V.ref r.streams):=by kernel_rfl
def zT{r:gM}:(bI r).lookup ("window":Str)=some (V.int r.window):=by kernel_rfl
def Hv{r:gM}:kY "window" (V.int x) (bI r)=bI {r with window:=x}:=by kernel_rfl
def xP{r:gM}:(bI r).lookup ("first_window":Str)=some (V.int r.fC):=by kernel_rfl
def Hu{r:gM}:kY "first_window" (V.int x) (bI r)=bI {r with fC:=x}:=by kernel_rfl
def JS{r:gM}:(bI r).lookup ("table":Str)=some (V.ref r.table):=by kernel_rfl
def Ef{r:gM}:(bI r).lookup ("block_was_sent":Str)=some (V.bl r.gn):=by kernel_rfl
def Ep{r:gM}{x:Bool}:kY "block_was_sent" (V.bl x) (bI r)=bI {r with gn:=x}:=by kernel_rfl
def mU{r:gM}:(bI r).lookup ("unsent":Str)=some (V.ref r.dU):=by kernel_rfl
def T8{r:gM}{x:Addr}:kY "unsent" (V.ref x) (bI r)=bI {r with dU:=x}:=by kernel_rfl
def zR{r:gM}:(bI r).lookup ("untold":Str)=some (V.ref r.gD):=by kernel_rfl
def rT{r:gM}:(bI r).lookup ("untold_weight":Str)=some (V.int r.bU):=by kernel_rfl
def wM{r:gM}:kY "untold_weight" (V.int x) (bI r)=bI {r with bU:=x}:=by kernel_rfl
def ou{r:gM}:(bI r).lookup ("told_now":Str)=some (V.ref r.eE):=by kernel_rfl
def Dd{r:gM}{x:Addr}:kY "told_now" (V.ref x) (bI r)=bI {r with eE:=x}:=by kernel_rfl
def qg{r:gM}:(bI r).length<1000:=aj2
def ade{r:gM}:(bI r).map (·.1)=(["first_bytes_come","frame_bytes","settings_have_come","open_block","failed","highest","streams","window","first_window","table","block_was_sent","unsent","untold","untold_weight","told_now"]:List Str):=rfl
structure Nq where
 stream:Int
 lC:Bool
 last:Bool
 qQ:Addr
def zj(r:Nq):List (Str×V):=ahi r.stream r.lC r.last r.qQ
def jl{r:Nq}:(zj r).lookup ("stream":Str)=some (V.int r.stream):=by kernel_rfl
def tE{r:Nq}:(zj r).lookup ("depends_on_itself":Str)=some (V.bl r.lC):=by kernel_rfl
def BP{r:Nq}:(zj r).lookup ("last":Str)=some (V.bl r.last):=by kernel_rfl
def yq{r:Nq}:(zj r).lookup ("packed":Str)=some (V.ref r.qQ):=by kernel_rfl
def afv{r:Nq}:(zj r).map (·.1)=(["stream","depends_on_itself","last","packed"]:List Str):=rfl
structure GR where
 calls:Addr
 place:Int
 line:Addr
def iU(r:GR):List (Str×V):=afx r.calls r.place r.line
def JR{r:GR}:(iU r).lookup ("calls":Str)=some (V.ref r.calls):=by kernel_rfl
def rO{r:GR}:(iU r).lookup ("place":Str)=some (V.int r.place):=by kernel_rfl
def JV{r:GR}:kY "place" (V.int x) (iU r)=iU {r with place:=x}:=by kernel_rfl
def nT{r:GR}:(iU r).lookup ("line":Str)=some (V.ref r.line):=by kernel_rfl
def Y8{r:GR}{x:Addr}:kY "line" (V.ref x) (iU r)=iU {r with line:=x}:=by kernel_rfl
def fJ{r:GR}:(iU r).lookup ("read_number":Str)=none:=by kernel_rfl
def wX{r:GR}:(iU r).lookup ("read_row":Str)=none:=by kernel_rfl
def ZQ{r:GR}:(iU r).length<1000:=aj1
def ahh{r:GR}:(iU r).map (·.1)=(["calls","place","line"]:List Str):=rfl
end My
variable{r:My.gM}
namespace My
open PySem L2
def bodyOf:Option Rv->Rb
 |some (.data _ b _)=>b
 |_=>[]
def JQ:Option Rv->Nat×Nat×Bool×Nat
 |none=>(0,0,false,0)
 |some (.request i _ e)=>(1,i,e,0)
 |some (.trailers i _)=>(2,i,true,0)
 |some (.data i _ e)=>(3,i,e,0)
 |some (.reset i c)=>(4,i,true,c)
 |some (.away c)=>(5,0,false,c)
def evR(r:ym)(e:Option Rv):Prop:=r.kind=((JQ e).1:Nat)/\r.stream=((JQ e).2.1:Nat)/\r.zg=(JQ e).2.2.1/\r.code=((JQ e).2.2.2:Nat)
def qI(A:Ad)(X:List Addr)(H:Hp)(a:Addr)(e:Option Rv):Prop:=
 ∃dx r,H a=some (.ins A.Event dx (pH r))/\evR r e/\oR A X H r.headers (Rc28.listOf e)/\H r.body=some (.cM (bv (bodyOf e)))/\a∉X/\r.headers∉X/\r.body∉X
def qI.iV{A:Ad}{X:List Addr}{H H':Hp}{a:Addr}{e:Option Rv}(x:qI A X H a e)(o:gm X H H'):qI A X H' a e:=by
 obtain⟨dx,r,h1,h2,h3,h4,n1,n2,n3⟩:=x;exact⟨dx,r,o _ _ h1 n1,h2,h3.iV o n2,o _ _ h4 n3,n1,n2,n3⟩
def oR.BL{A:Ad}{X Y:List Addr}{H:Hp}{l:Addr}{hs:List Rh}(x:oR A X H l hs)(g:∀y∈Y,y∈X\/H y=none):oR A Y H l hs:=by
 obtain⟨as,h1,h2⟩:=x;exact⟨as,h1,bN h2 λ_ _ z=>z.BL g⟩
def CW{o:HO}(h:H a=some o)(n:a∉X)(g:∀y∈Y,y∈X\/H y=none):a∉Y:=λm=>by
 rcases g a m with z|z
 . exact n z
 . rw[h]at z;cases z
def qI.BL{A:Ad}{X Y:List Addr}{H:Hp}{a:Addr}{e:Option Rv}(x:qI A X H a e)(g:∀y∈Y,y∈X\/H y=none):qI A Y H a e:=by
 obtain⟨dx,r,h1,h2,h3,h4,n1,n2,n3⟩:=x;obtain⟨as,h5,_⟩:=id h3;exact⟨dx,r,h1,h2,h3.BL g,h4,CW h1 n1 g,CW h5 n2 g,CW h4 n3 g⟩
inductive tW(A:Ad)(vs:List V)(H:Hp)(Q:VK)(_:XK):Prop
 |mk (p dx:Addr) (k s:Int) (n:Bool) (c:Int) (_:vs=[.ref p,.int k,.int s,.bl n,.int c]) (_:H p=some (.ins A.Event dx [])) (_:∀(h b:Addr)(H':Hp),H' p=some (.ins A.Event dx (pH ⟨k,s,n,c,h,b⟩))->H h=none->H b=none->h≠b->H' h=some (.cM [])->H' b=some (.cM [])->wN p H H'->Q .non H')
def Vv(F:j5 K "__init__" "Event.__init__" Et f fd)(T:Txt K mg A):dR P w K mg base dW 1 f fd ["self","kind","stream","no_more","code"] (tW A):=by
 refine F.mZ (N:=["self","kind","stream","no_more","code"]) (λ_ _ _ s _ _ _ _ _ h _=>?_)
 . obtain⟨p,dx,k,s,n,c,rfl,hp,q⟩:=h;refine⟨_,(ao (abu 0 (pv 1) rfl)
    (ao (abu 0 (pv 2) rfl)
    (ao (abu 0 (pv 3) rfl)
    (ao (abu 0 (pv 4) rfl)
    (ao (abu 0 (jT aK) rfl)
    (aG (abu 0 (jT aK) rfl))))))),?_⟩
   refine⟨_,rfl,rfl,hp,T.mK,T.wg,(by show 0<1000;decide),?_⟩
   refine⟨_,rfl,rfl,aB,T.mK,T.Hm,(by show 1<1000;decide),?_⟩
   refine⟨_,rfl,rfl,aB,T.mK,T.FQ,(by show 2<1000;decide),?_⟩
   refine⟨_,rfl,rfl,aB,T.mK,T.Mu,(by show 3<1000;decide),?_⟩
   rw[jc,jc,jc];refine⟨(by decide),λh hh=>⟨rfl,by rw[aM (aD aB hh)];exact aB,T.mK,T.rG,(by show 4<1000;decide),?_⟩⟩
   refine⟨(by decide),λb hb=>⟨rfl,by rw[aM (aD aB hb)];exact aB,T.mK,T.v9,(by show 5<1000;decide),?_⟩⟩
   have hhp:p≠h:=aD aB hh;have hbp:p≠b:=aD aB hb;have hhb:h≠b:=aD (by rw[aM (Ne.symm hhp)];exact aB) hb
   rw[aM (Ne.symm hhp)]at hh;rw[aM (Ne.symm hbp),aM (Ne.symm hhb),aM (Ne.symm hbp)]at hb;refine q h b _ (by rw[aB];rfl) hh hb hhb (by rw[aM (Ne.symm hhp),aM hhb,aM (Ne.symm hhp)];exact aB) (by rw[aM (Ne.symm hbp)];exact aB) ?_
   intro x o e hx;rw[aM hx,aM (aD e hb),aM hx,aM (aD e hh),aM hx];exact e
def zU{k s:Int}{n:Bool}{c:Int}{Q:Addr->Hp->Prop}{E:XK}(q:∀(x dx h b:Addr)(H':Hp),H x=none->H h=none->H b=none->x≠h->x≠b->h≠b->H' x=some (.ins A.Event dx (pH ⟨k,s,n,c,h,b⟩))->H' h=some (.cM [])->H' b=some (.cM [])->cZ H H'->Q x H'):
 ∀x dx,H x=none->H dx=none->dx≠x->tW A (.ref x::([.int k,.int s,.bl n,.int c]++[])) (L2.bM (L2.bM H dx (.own x)) x (.ins A.Event dx [])) (λv H2=>v=.non/\Q x H2) E:=by
 intro x dx hx hdx hne;refine⟨x,dx,k,s,n,c,rfl,aB,λh b H' e1 e2 e3 e4 e5 e6 e7=>⟨rfl,?_⟩⟩;have hhx:x≠h:=aD aB e2;have hbx:x≠b:=aD aB e3;rw[aM (Ne.symm hhx)]at e2;rw[aM (Ne.symm hbx)]at e3;have hhd:dx≠h:=aD aB e2;have hbd:dx≠b:=aD aB e3;rw[aM (Ne.symm hhd)]at e2;rw[aM (Ne.symm hbd)]at e3;refine q x dx h b H' hx e2 e3 hhx hbx e4 e1 e5 e6 λy o e=>e7 y o ?_ (aD e hx);rw[aM (aD e hx),aM (aD e hdx)];exact e
def Kf{x h b:Addr}{k s:Int}{n:Bool}{c:Int}(L:U7 X H)(hx:H x=none)(hh:H h=none)(hb:H b=none)(e1:H' x=some (.ins A.Event dx (pH ⟨k,s,n,c,h,b⟩)))(e2:H' h=some (.cM []))(e3:H' b=some (.cM [])){e:Option Rv}(hr:evR ⟨k,s,n,c,h,b⟩ e)(hl:Rc28.listOf e=[])(hbo:bodyOf e=[]):qI A X H' x e:=
 ⟨dx,_,e1,hr,⟨[],e2,by rw[hl];exact .nil⟩,by rw[hbo];exact e3,L.out hx,L.out hh,L.out hb⟩
inductive Pb(A:Ad)(vs:List V)(H:Hp)(Q:VK)(_:XK):Prop
 |mk (X:List Addr) (_:vs=[]) (_:U7 X H) (_:∀a H',H a=none->qI A X H' a none->cZ H H'->Q (.ref a) H')
def QX(F:j5 K "nothing_told" "nothing_told" Ae f fd)(T:Txt K mg A)(ji:DQ P w K mg base "Event" A.Event 1 ["self","kind","stream","no_more","code"] (tW A)):dR P w K mg base dW 3 f fd [] (Pb A):=by
 refine F.mZ (N:=[]) (λ_ _ _ _ _ _ _ _ hr h _=>?_)
 . obtain⟨X,rfl,L,q⟩:=h;refine⟨_,(aG (aZ (qt ji hr.lw (aa (cR T.ad4) (aa bx (aa qG (aa bx aK))))))),?_⟩;exact zU λx dx h b H' hx hh hb _ _ _ e1 e2 e3 sm=>q x H' hx (Kf L hx hh hb e1 e2 e3 ⟨rfl,rfl,rfl,rfl⟩ rfl rfl) sm
inductive Ao(A:Ad)(vs:List V)(H:Hp)(Q:VK)(_:XK):Prop
 |mk (X:List Addr) (k:Int) (id:Nat) (nm:Bool) (l:Addr) (hs:List Rh) (e:Rv) (_:vs=[.int k,.int (id:Int),.bl nm,.ref l]) (_:U7 X H) (_:oR A X H l hs) (_:l∉X) (_:(e=.request id hs nm/\k=1\/e=.trailers id hs/\k=2/\nm=true)) (_:∀a H',H a=none->qI A X H' a (some e)->cZ H H'->Q (.ref a) H')
def Oo(F:j5 K "headers_event" "headers_event" yF f fd)(T:Txt K mg A)(ji:DQ P w K mg base "Event" A.Event 1 ["self","kind","stream","no_more","code"] (tW A)):dR P w K mg base dW 3 f fd ["kind","stream","no_more","headers"] (Ao A):=by
 refine F.mZ (N:=["kind","stream","no_more","headers","event"]) (λ_ _ _ _ H _ _ _ hr h nd0=>?_)
 . obtain⟨X,k,id,nm,l,hs,e,rfl,L,hl,hlX,he,q⟩:=h;refine⟨_,(ao (cB (i:=4) nd0 rfl (Or.inl rfl) (qt ji hr.lw (aa (pv 0) (aa (pv 1) (aa (pv 2) (aa bx aK))))))
    (ao (abu 4 (pv 3) rfl)
    (aG (aZ (pv 4))))),?_⟩
   refine⟨_,rfl,_,rfl,_,rfl,?_⟩;dsimp only[fG,tC,oO,Bp,Dq];refine zU λx dx h b H' hx hh hb hxh hxb hhb e1 e2 e3 sm=>?_;refine⟨_,rfl,rfl,e1,T.mK,T.rG,abt,?_⟩;rw[O2];refine⟨_,rfl,q x _ hx ?_ λy o e=>by rw[aM (aD e hx)];exact sm y o e⟩
   have sm':cZ H (L2.bM H' x (.ins A.Event dx (pH {kind:=k,stream:=id,zg:=nm,code:=0,headers:=l,body:=b}))):=λy o e=>by rw[aM (aD e hx)];exact sm y o e
   refine⟨dx,_,aB,?_,?_,?_,L.out hx,hlX,L.out hb⟩
   . rcases he with⟨rfl,rfl⟩|⟨rfl,rfl,rfl⟩<;>exact⟨rfl,rfl,rfl,rfl⟩
   . have:Rc28.listOf (some e)=hs:=by rcases he with⟨rfl,rfl⟩|⟨rfl,rfl,rfl⟩<;>rfl
     rw[this];exact hl.same sm'
   . have:bodyOf (some e)=[]:=by rcases he with⟨rfl,rfl⟩|⟨rfl,rfl,rfl⟩<;>rfl
     rw[this,aM (Ne.symm hxb)];exact e3
inductive Ik(A:Ad)(vs:List V)(H:Hp)(Q:VK)(_:XK):Prop
 |mk (X:List Addr) (id:Nat) (nm:Bool) (bd:Addr) (b:Rb) (_:vs=[.int (id:Int),.bl nm,.ref bd]) (_:U7 X H) (_:H bd=some (.cM (bv b))) (_:bd∉X) (_:∀a H',H a=none->qI A X H' a (some (.data id b nm))->cZ H H'->Q (.ref a) H')
def VF(F:j5 K "data_event" "data_event" Fd f fd)(T:Txt K mg A)(ji:DQ P w K mg base "Event" A.Event 1 ["self","kind","stream","no_more","code"] (tW A)):dR P w K mg base dW 3 f fd ["stream","no_more","body"] (Ik A):=by
 refine F.mZ (N:=["stream","no_more","body","event"]) (λ_ _ _ _ _ _ _ _ hr h nd0=>?_)
 . obtain⟨X,id,nm,bd,b,rfl,L,hb,hbX,q⟩:=h;refine⟨_,(ao (cB (i:=3) nd0 rfl (Or.inl rfl) (qt ji hr.lw (aa (cR T.afd) (aa (pv 0) (aa (pv 1) (aa bx aK))))))
    (ao (abu 3 (pv 2) rfl)
    (aG (aZ (pv 3))))),?_⟩
   refine⟨_,rfl,_,rfl,?_⟩;dsimp only[fG,tC,oO,Bp,Dq];refine zU λx dx h b' H' hx hh hb' hxh hxb hhb e1 e2 e3 sm=>?_;refine⟨_,rfl,rfl,e1,T.mK,T.v9,abt,?_⟩;rw[V0];refine⟨_,rfl,q x _ hx ?_ λy o e=>by rw[aM (aD e hx)];exact sm y o e⟩
   refine⟨dx,_,aB,⟨rfl,rfl,rfl,rfl⟩,⟨[],by rw[aM (Ne.symm hxh)];exact e2,.nil⟩,?_,L.out hx,L.out hh,hbX⟩
   rw[aM (aD hb hx)];exact sm _ _ hb
inductive Le(A:Ad)(vs:List V)(H:Hp)(Q:VK)(_:XK):Prop
 |mk (X:List Addr) (a:Addr) (e:Rv) (_:vs=[.ref a]) (_:qI A X H a (some e)) (_:(Rc28.listOf (some e)).length<=100000) (_:∀H',cZ H H'->Q (.int (sizeOf_ e:Nat)) H')
def KR(F:j5 K "weight_of_event" "weight_of_event" wC f fd)(T:Txt K mg A)(lM:jQ P w K mg base "weight_of_headers" dW 2 ["headers"] (Je A)):dR P w K mg base dW 3 f fd ["event"] (Le A):=by
 refine F.mZ (N:=["event"]) (λ_ _ _ _ H _ Q _ hr h _=>?_)
 . obtain⟨X,a,e,rfl,⟨dx,r,h1,⟨hk,_⟩,h3,h4,_⟩,jB,q⟩:=h;refine⟨_,(ao (cV (uB (bF pI (aaO 0 rfl) (cR T.Wu) (bO _)) (rZ (bF pI (aaO 0 rfl) (cR T.Sg) (bO _)))).pt (aG (aZ (aU lM hr.lw (aa (aaO 0 rfl) aK)))) bC)
    (aG (aZ (iW oG (bV bc (by rfl) T.gO aO (aa (aaO 0 rfl) aK)) bx)))),?_⟩
   refine⟨rfl,h1,T.mK,T.wg,xH,rfl,_,rfl,?_⟩;rw[hk];have hd:∀n:Nat,(JQ (some e)).1≠1->(JQ (some e)).1≠2->sizeOf_ e=(bodyOf (some e)).length+32:=by
    intro _;cases e<;>simp[JQ,sizeOf_,bodyOf]
   have hw:∀n:Nat,((JQ (some e)).1=1\/(JQ (some e)).1=2)->sizeOf_ e=tw (Rc28.listOf (some e)):=by
    intro _;cases e<;>simp[JQ,sizeOf_,Rc28.listOf,tw]
   have wh:((JQ (some e)).1=1\/(JQ (some e)).1=2)->Dn (uc (Je A) [] E0 (fG (tFv K 0 "headers") oO)) {nx:=λ_ H'=>Q .non H',rt:=Q} [some (.ref a)] H:=by
    intro hc;refine⟨rfl,h1,T.mK,T.rG,wW,X,_,_,rfl,h3,jB,λH' sm=>?_⟩;rw[<-hw 0 hc];exact q H' sm
   by_cases k1:(JQ (some e)).1=1
   . rw[show decide (V.int ((JQ (some e)).1:Int)=V.int 1)=true by rw[k1];rfl]
     exact cQ (cQ (wh (.inl k1)))
   . rw[show decide (V.int ((JQ (some e)).1:Int)=V.int 1)=false by simp only[V.int.injEq,gr];omega]
     refine cY ⟨rfl,h1,T.mK,T.wg,xH,rfl,_,rfl,?_⟩;rw[hk];by_cases k2:(JQ (some e)).1=2
     . rw[show decide (V.int ((JQ (some e)).1:Int)=V.int 2)=true by rw[k2];rfl]
       exact cQ (wh (.inr k2))
     . rw[show decide (V.int ((JQ (some e)).1:Int)=V.int 2)=false by simp only[V.int.injEq,gr];omega]
       refine cY ⟨rfl,h1,T.mK,T.v9,BR,_,_,rfl,.inl (fH.of h4),_,_,rfl,rfl,?_⟩;have:=q H λ_ _ e=>e;rw[hd 0 k1 k2]at this;rw[cA];exact this
def Km(e:Option Rv):List Int:=[((JQ e).1:Nat),((JQ e).2.1:Nat),(if (JQ e).2.2.1 then 1 else 0),(((Rc28.listOf e).length:Nat):Int)+(((bodyOf e).length:Nat):Int),((JQ e).2.2.2:Nat)]
inductive abf(A:Ad)(vs:List V)(H:Hp)(Q:VK)(_:XK):Prop
 |mk (X:List Addr) (a:Addr) (e:Option Rv) (_:vs=[.ref a]) (_:qI A X H a e) (_:∀p H',H p=none->H' p=some (.cM ((Km e).map V.int))->cZ H H'->Q (.ref p) H')
def Jz(F:j5 K "numbers_of_event" "numbers_of_event" vD f fd)(T:Txt K mg A):dR P w K mg base dW 1 f fd ["event"] (abf A):=by
 refine F.mZ (N:=["event","no_more","how_many"]) (λ_ _ _ _ H _ Q _ _ h nd0=>?_)
 . obtain⟨X,a,e,rfl,⟨dx,r,h1,⟨hk,hs,hn,hc⟩,⟨as,h3,h3'⟩,h4,_⟩,q⟩:=h;refine⟨_,(ao (cB (i:=1) nd0 rfl (Or.inl rfl) (Dc (iB (aaO 0 rfl)) bx bx))
    (ao (cB (i:=2) nd0 rfl (Or.inl rfl) (iW oG (bV bc (by rfl) T.gO aO (aa (aaO 0 rfl) aK)) (bV bc (by rfl) T.gO aO (aa (aaO 0 rfl) aK))))
    (aG (aZ (jT (aa (aaO 0 rfl) (aa (aaO 0 rfl) (aa (pv 1) (aa (pv 2) (aa (aaO 0 rfl) aK)))))))))),?_⟩
   refine⟨rfl,h1,T.mK,T.FQ,Od,_,rfl,?_⟩;have step:∀i:Int,i=(if (JQ e).2.2.1 then 1 else 0)->((agH (tOp (rI0 λi j=>V.int (i+j)) (tCB (λxs H Q=>∃p ys,xs=[V.ref p]/\(fH K H p ys\/Bx K H p ys)/\Q (.int ys.length) H) (fG (tFv K 0 "headers") oO)) (tCB (λxs H Q=>∃p ys,xs=[V.ref p]/\(fH K H p ys\/Bx K H p ys)/\Q (.int ys.length) H) (fG (tFv K 0 "body") oO))) (Bp 2))) {nx:=(Dn (ak8 (fG (tFv K 0 "kind") (fG (tFv K 0 "stream") (fG (iw 1) (fG (iw 2) (fG (tFv K 0 "code") oO))))))) {nx:=λ_ H'=>Q .non H',rt:=Q},rt:=Q} [some (.ref a),some (.int i),none] H:=by
    intro i hi;refine⟨rfl,h1,T.mK,T.rG,wW,_,_,rfl,.inl (fH.of h3),rfl,h1,T.mK,T.v9,BR,_,_,rfl,.inl (fH.of h4),_,_,rfl,rfl,?_⟩;refine⟨rfl,h1,T.mK,T.wg,xH,rfl,h1,T.mK,T.Hm,QL,_,rfl,_,rfl,rfl,h1,T.mK,T.Mu,Vt,(by show 5<=sizeLine;decide),λp hp=>?_⟩
    refine q p _ hp ?_ λy o e=>by rw[aM (aD e hp)];exact e
    rw[aB,hk,hs,hc,hi,aC,fj h3',cA];rfl
   show if r.zg=true then _ else _
   rw[hn]
   cases hb:(JQ e).2.2.1 with
   |true=>exact cQ (step 1 (by rw[hb];rfl))
   |false=>exact cY (step 0 (by rw[hb];rfl))
end My
variable{l:List Rt}{b c L dL B p u:PySem.Addr}{es X':List PySem.Addr}{o:L2.HO}{Q:L2.VK}{r':My.gM}{s:Ra}{y:Rt}{h:Rh}{ns:List Int}{p1 p2 p3:PySem.Str}{oc pm wU ct:PySem.Value}{od an:Option PySem.Addr}
namespace My
open PySem L2
def Qo(A:Ad)(H:Hp)(a:Addr)(x:Rt):Prop:=∃dx r,H a=some (.ins A.Stream dx (gV r))/\r.window=x.window/\r.jH=x.comes/\r.jn=x.begun
def qD(as:List Addr)(l:List Rt):List (xF×V):=List.zipWith (λa (x:Rt)=>((Sum.inl (x.id:Int):xF),V.ref a)) as l
structure Z6(A:Ad)(H:Hp)(sd:Addr)(as:List Addr)(l:List Rt):Prop where
 ob:H sd=some (.dK (qD as l))
 st:Paired (Qo A H) as l
 Hg:(l.map (·.id)).Nodup
def abv(A:Ad)(H:Hp)(v:V)(bs:List Addr):Option Rk->Prop
 |none=>v=.non/\bs=[]
 |some k=>∃B dB r,v=.ref B/\bs=[B,r.qQ]/\H B=some (.ins A.Block dB (zj r))/\r.stream=(k.id:Nat)/\r.last=k.last/\r.lC=k.self_/\H r.qQ=some (.cM (bv k.bytes))
inductive FN(A:Ad)(X:List Addr)(H:Hp)(ut:Addr)(l:List Rv):Prop
 |mk (es:_) (_:H ut=some (.cM (es.map V.ref))) (_:Paired (λa e=>qI A X H a (some e)) es l)
def ZR(l:List Rv):Nat:=(l.map sizeOf_).sum
structure Lx where
 nf:Addr
 dt:Addr
 fx:Addr
 bs:List Addr
 as:List Addr
def foot(L:Addr)(r:gM)(x:Lx):List Addr:=L::r.di::r.streams::r.table::x.nf::r.dU::r.gD::(x.bs++x.as)
structure gb(A:Ad)(H:Hp)(L dL:Addr)(r:gM)(x:Lx)(s:Ra):Prop where
 ob:H L=some (.ins A.dF dL (bI r))
 start:r.gR=(s.start:Nat)
 part:H r.di=some (.cM (bv s.part))
 settled:r.dX=s.settled
 failed:r.failed=false
 dead:s.dead=false
 highest:r.highest=(s.highest:Nat)
 window:r.window=s.window
 first:r.fC=s.first
 said:r.gn=s.said
 out:H r.dU=some (.cM (bv s.out))
 Gj:abv A H r.gC x.bs s.block
 tZ:Z6 A H r.streams x.as s.streams
 yd:rE A (foot L r x) H r.table x.dt x.nf x.fx s.table.rows s.table.most
 Dr:Wh s.table
 evs:FN A (foot L r x) H r.gD s.events
 wt:r.bU=(ZR s.events:Nat)
 now:qI A (foot L r x) H r.eE s.now
 nd:(foot L r x).Nodup
 wL:U7 (foot L r x) H
def yQ{l:List Addr}(nd:l.Nodup)(hi:l[i]? = some a)(hj:l[j]? = some b)(h:i≠j):a≠b:=by
 rintro rfl;exact h (nodup_ixA nd hi hj)
where
 nodup_ixA {l:List Addr} (nd:l.Nodup) {i j:Nat} {a:Addr} (hi:l[i]? = some a) (hj:l[j]? = some a):i=j:=by
  obtain⟨h1,e1⟩:=bh.mp hi;obtain⟨h2,e2⟩:=bh.mp hj;have p:=kI.mp nd;rcases Nat.lt_trichotomy i j with h|h|h
  . exact absurd (e1.trans e2.symm) (p i j h1 h2 h)
  . exact h
  . exact absurd (e2.trans e1.symm) (p j i h2 h1 h)
def rH{l:List Addr}(nd:l.Nodup)(i j:Nat)(hi:l[i]? = some a)(hj:l[j]? = some b)(h:i≠j:=by decide):a∉[b]:=λm=>yQ nd hi hj h (ak.mp m)
def CV{l:List Addr}(nd:l.Nodup)(i j k:Nat)(hi:l[i]? = some a)(hj:l[j]? = some b)(hk:l[k]? = some c)(h:i≠j:=by decide)(h':i≠k:=by decide):a∉[b,c]:=λm=>by
 rcases aJ.mp m with m|m
 . exact yQ nd hi hj h m
 . exact yQ nd hi hk h' (ak.mp m)
def lN{x:Lx}(nd:(foot L r x).Nodup)(ha:a∈x.bs++x.as)(hj:(foot L r x)[j]? = some b)(h:j<7:=by decide):a≠b:=by
 obtain⟨k,hk⟩:=jo.mp ha;exact yQ nd (i:=k+7) (by show (L::r.di::r.streams::r.table::x.nf::r.dU::r.gD::(x.bs++x.as))[k+7]? = _;simpa using hk) hj (by omega)
def ac2{x:Lx}(nd:(foot L r x).Nodup)(ha:a∈x.bs)(hb:b∈x.as):a≠b:=by
 unfold foot at nd;have n7:(x.bs++x.as).Nodup:=by
  simp only[dZ]at nd;exact nd.2.2.2.2.2.2.2
 exact(kZ.mp n7).2.2 a ha b hb
def cC{x:Lx}(hj:(foot L r x)[j]? = some b):b∈foot L r x:=cD hj
def Qo.iV{x:Rt}(h:Qo A H a x)(o:gm Y H H')(n:a∉Y):Qo A H' a x:=by
 obtain⟨dx,r,h1,h2,h3,h4⟩:=h;exact⟨dx,r,o _ _ h1 n,h2,h3,h4⟩
theorem vq{α β:Type}{F G:α->β->Prop}:∀{l:List α}{m:List β},Paired F l m->(∀a∈l,∀b,F a b->G a b)->Paired G l m
 |_,_,.nil,_=>.nil
 |_,_,.cons r t,f=>.cons (f _ (.head _) _ r) (vq t λa ha=>f a (.tail _ ha))
def Z6.iV{A:Ad}{Y:List Addr}{H H':Hp}{sd:Addr}{as:List Addr}{l:List Rt}(h:Z6 A H sd as l)(o:gm Y H H')(n:sd∉Y)(na:∀a∈as,a∉Y):Z6 A H' sd as l:=
 ⟨o _ _ h.ob n,vq h.st λa ha _ z=>z.iV o (na a ha),h.Hg⟩
def abv.iV{v:V}{bs:List Addr}{b:Option Rk}(h:abv A H v bs b)(o:gm Y H H')(n:∀a∈bs,a∉Y):abv A H' v bs b:=by
 cases b with
 |none=>exact h
 |some k=>
  obtain⟨B,dB,r,h1,h2,h3,h4,h5,h6,h7⟩:=h;subst h2;exact⟨B,dB,r,h1,rfl,o _ _ h3 (n _ (.head _)),h4,h5,h6,o _ _ h7 (n _ (.tail _ (.head _)))⟩
def FN.iV{A:Ad}{X Y:List Addr}{H H':Hp}{ut:Addr}{l:List Rv}(h:FN A X H ut l)(oX:gm X H H')(o:gm Y H H')(n:ut∉Y):FN A X H' ut l:=by
 obtain⟨es,h1,h2⟩:=h;exact⟨es,o _ _ h1 n,bN h2 λ_ _ z=>z.iV oX⟩
section
variable{x:Lx}
def gb.Gf(h:gb A H L dL r x s)(hj:(foot L r x)[j]? = some b)(hb:j<7:=by decide):(∀a∈x.bs,a∉[b])/\(∀a∈x.as,a∉[b]):=
 ⟨λa ha m=>lN h.nd (bY _ ha) hj hb (ak.mp m),λa ha m=>lN h.nd (cF _ ha) hj hb (ak.mp m)⟩
def gb.agJ(h:gb A H L dL r x s){k:Nat}(hj:(foot L r x)[j]? = some b)(hk:(foot L r x)[k]? = some c)(hb:j<7:=by decide)(hc:k<7:=by decide):(∀a∈x.bs,a∉[b,c])/\(∀a∈x.as,a∉[b,c]):=
 ⟨λa ha m=>(aJ.mp m).elim (λm=>lN h.nd (bY _ ha) hj hb m) λm=>lN h.nd (bY _ ha) hk hc (ak.mp m),
  λa ha m=>(aJ.mp m).elim (λm=>lN h.nd (cF _ ha) hj hb m) λm=>lN h.nd (cF _ ha) hk hc (ak.mp m)⟩
def gb.acC(h:gb A H L dL r x s){o':Rb}(o:gm [r.dU] H H')(e:H' r.dU=some (.cM (bv o'))):gb A H' L dL r x {s with out:=o'}:=by
 have oX:gm (foot L r x) H H':=o.mono λy hy=>by rw[ak.mp hy];exact cC (j:=5) rfl
 have t:=h.Gf (j:=5) rfl;exact⟨o _ _ h.ob (rH h.nd 0 5 rfl rfl),h.start,o _ _ h.part (rH h.nd 1 5 rfl rfl),h.settled,h.failed,h.dead,h.highest,h.window,h.first,h.said,e,h.Gj.iV o t.1,h.tZ.iV o (rH h.nd 2 5 rfl rfl) t.2,
  h.yd.iV o (λy hy=>by rw[ak.mp hy];exact cC (j:=5) rfl) (rH h.nd 3 5 rfl rfl) (rH h.nd 4 5 rfl rfl),h.Dr,h.evs.iV oX o (rH h.nd 6 5 rfl rfl),h.wt,h.now.iV oX,h.nd,h.wL.iV o λy hy=>by rw[ak.mp hy];exact⟨_,e⟩⟩
def gb.told(h:gb A H L dL r x s){ev:Rv}(o:gm [L,r.gD] H H')(hes:H r.gD=some (.cM (es.map V.ref)))(e1:H' L=some (.ins A.dF dL (bI {r with bU:=r.bU+(sizeOf_ ev:Nat)})))(e2:H' r.gD=some (.cM ((es++[a]).map V.ref)))(ha:qI A (foot L r x) H a (some ev)):gb A H' L dL {r with bU:=r.bU+(sizeOf_ ev:Nat)} x {s with events:=s.events++[ev]}:=by
 have hY:∀y∈[L,r.gD],y∈foot L r x:=λy hy=>by
  rcases aJ.mp hy with rfl|hy
  . exact cC (j:=0) rfl
  . rw[ak.mp hy];exact cC (j:=6) rfl
 have oX:gm (foot L r x) H H':=o.mono hY;have t:=h.agJ (j:=0) (k:=6) rfl rfl;refine⟨e1,h.start,o _ _ h.part (CV h.nd 1 0 6 rfl rfl rfl),h.settled,h.failed,h.dead,h.highest,h.window,h.first,h.said,o _ _ h.out (CV h.nd 5 0 6 rfl rfl rfl),h.Gj.iV o t.1,h.tZ.iV o (CV h.nd 2 0 6 rfl rfl rfl) t.2,
  h.yd.iV o hY (CV h.nd 3 0 6 rfl rfl rfl) (CV h.nd 4 0 6 rfl rfl rfl),h.Dr,?_,?_,h.now.iV oX,h.nd,h.wL.iV o λy hy=>?_⟩
 . obtain⟨es',h1,h2⟩:=h.evs;rw[hes]at h1;have:es=es':=by
    have:=cz h1;injection this with z;exact List.map_inj_right (λa b e=>by injection e) |>.mp z
   subst this;exact⟨es++[a],e2,tL (bN h2 λ_ _ z=>z.iV oX) (ha.iV oX)⟩
 . show r.bU+_=_
   rw[h.wt];unfold ZR;rw[dm,List.sum_append];simp
 . rcases aJ.mp hy with rfl|hy
   . exact⟨_,e1⟩
   . rw[ak.mp hy];exact⟨_,e2⟩
end
end My
variable{x:My.Lx}
namespace My
open PySem L2
def aiQ{k f:Nat}(hk:k<256)(hf:f<256):[V.int (k:Int),V.int (f:Int)]=bv [UInt8.ofNat k,UInt8.ofNat f]:=by
 have e:∀n:Nat,n<256->((UInt8.ofNat n).toNat:Int)=(n:Int):=λn hn=>by
  rw[UInt8.toNat_ofNat'];omega
 show _=[V.int ((UInt8.ofNat k).toNat:Int),V.int ((UInt8.ofNat f).toNat:Int)]
 rw[e k hk,e f hf]
inductive xr(A:Ad)(vs:List V)(H:Hp)(Q:VK)(_:XK):Prop
 |mk (L dL:Addr) (r:gM) (out:Rb) (k fl id:Nat) (bd:Addr) (b:Rb) (_:vs=[.ref L,.int (k:Int),.int (fl:Int),.int (id:Int),.ref bd]) (_:H L=some (.ins A.dF dL (bI r))) (_:H r.dU=some (.cM (bv out))) (_:H bd=some (.cM (bv b))) (_:bd≠r.dU) (_:k<256) (_:fl<256) (_:out.length+b.length+100<=sizeLine) (_:∀H',H' r.dU=some (.cM (bv (out++Rc28.frame k fl id b)))->gm [r.dU] H H'->Q .non H')
def VR(F:j5 K "send_frame" "send_frame" Fp f fd)(T:Txt K mg A)(dO:jQ P w K mg base "bytes_of_number" dW 1 ["number","count"] aeM):dR P w K mg base dW 2 f fd ["line","kind","flags","stream","body"] (xr A):=by
 refine F.mZ (N:=["line","kind","flags","stream","body"]) (λ_ _ _ _ H _ _ _ hr h _=>?_)
 . obtain⟨L,dL,r,out,k,fl,id,bd,b,rfl,hL,ho,hb,hne,hk,hfl,hz,q⟩:=h;refine⟨_,(ao (dz (uR bB fU fW vR (aaO 0 rfl) (aa (aU dO hr.lw (aa (bV bc (by rfl) T.gO aO (aa (pv 4) aK)) (aa bx aK))) aK)))
    (ao (dz (uR bB fU fW vR (aaO 0 rfl) (aa (jT (aa (pv 1) (aa (pv 2) aK))) aK)))
    (ao (dz (uR bB fU fW vR (aaO 0 rfl) (aa (aU dO hr.lw (aa (pv 3) (aa bx aK))) aK)))
    (aG (dz (uR bB fU fW vR (aaO 0 rfl) (aa (pv 4) aK))))))),?_⟩
   have hLu:L≠r.dU:=CT hL ho (by intro z;cases z)
   refine⟨rfl,hL,T.cN,T.lu,mU,.inl ⟨rfl,_,fH.of ho⟩,_,rfl,_,_,rfl,.inl (fH.of hb),b.length,3,by rw[cA];rfl,by decide,λp1 hp1 H1 e1 s1=>?_⟩
   have o1:=s1 _ _ ho;refine⟨_,_,_,_,rfl,rfl,o1,e1,by rw[cA,cA,nq];omega,?_⟩
   rw[<-uH];have f1:gm [r.dU] H (L2.bM H1 r.dU (.cM (bv (out++Rc28.be 3 b.length)))):=(cZ.iV s1).trans (gm.bM (.head _));have u1:L2.bM H1 r.dU (.cM (bv (out++Rc28.be 3 b.length))) r.dU=some (.cM (bv (out++Rc28.be 3 b.length))):=aB;generalize L2.bM H1 r.dU (.cM (bv (out++Rc28.be 3 b.length)))=H2 at f1 u1;have nL:L∉[r.dU]:=λm=>hLu (ak.mp m);have nb:bd∉[r.dU]:=λm=>hne (ak.mp m);refine⟨rfl,f1 _ _ hL nL,T.cN,T.lu,mU,.inl ⟨rfl,_,fH.of u1⟩,_,rfl,_,rfl,(by show 2<=sizeLine;decide),λp2 hp2=>?_⟩
   refine⟨_,_,_,_,rfl,rfl,by rw[aM (aD u1 hp2)];exact u1,aB,by rw[cA,aF,nq];show _+2<=_;omega,?_⟩
   rw[aiQ hk hfl,<-uH];have f2:gm [r.dU] H (L2.bM (L2.bM H2 p2 (.cM (bv [UInt8.ofNat k,UInt8.ofNat fl]))) r.dU (.cM (bv (out++Rc28.be 3 b.length++[UInt8.ofNat k,UInt8.ofNat fl])))):=f1.trans ((gm.new hp2).trans (gm.bM (.head _)));have u2:L2.bM (L2.bM H2 p2 (.cM (bv [UInt8.ofNat k,UInt8.ofNat fl]))) r.dU (.cM (bv (out++Rc28.be 3 b.length++[UInt8.ofNat k,UInt8.ofNat fl]))) r.dU=some (.cM (bv (out++Rc28.be 3 b.length++[UInt8.ofNat k,UInt8.ofNat fl]))):=aB;generalize L2.bM (L2.bM H2 p2 (.cM (bv [UInt8.ofNat k,UInt8.ofNat fl]))) r.dU (.cM (bv (out++Rc28.be 3 b.length++[UInt8.ofNat k,UInt8.ofNat fl])))=H3 at f2 u2;refine⟨rfl,f2 _ _ hL nL,T.cN,T.lu,mU,.inl ⟨rfl,_,fH.of u2⟩,_,rfl,id,4,rfl,by decide,λp3 hp3 H4 e4 s4=>?_⟩;have u4:=s4 _ _ u2;refine⟨_,_,_,_,rfl,rfl,u4,e4,by rw[cA,cA,nq,aF,aF,nq];show _+2+4<=_;omega,?_⟩
   rw[<-uH];have f4:=f2.trans ((cZ.iV s4).trans (gm.bM (o:=.cM (bv (out++Rc28.be 3 b.length++[UInt8.ofNat k,UInt8.ofNat fl]++Rc28.be 4 id))) (.head _)));have u5:L2.bM H4 r.dU (.cM (bv (out++Rc28.be 3 b.length++[UInt8.ofNat k,UInt8.ofNat fl]++Rc28.be 4 id))) r.dU=some (.cM (bv (out++Rc28.be 3 b.length++[UInt8.ofNat k,UInt8.ofNat fl]++Rc28.be 4 id))):=aB;generalize L2.bM H4 r.dU (.cM (bv (out++Rc28.be 3 b.length++[UInt8.ofNat k,UInt8.ofNat fl]++Rc28.be 4 id)))=H5 at f4 u5;refine⟨rfl,f4 _ _ hL nL,T.cN,T.lu,mU,.inl ⟨rfl,_,fH.of u5⟩,_,rfl,_,_,_,_,rfl,rfl,u5,f4 _ _ hb nb,by rw[cA,cA,aF,aF,aF,nq,nq];show _+2+4+_<=_;omega,?_⟩
   rw[<-uH];refine q _ ?_ (f4.trans (gm.bM (.head _)));rw[aB];unfold Rc28.frame;simp only[iC,jU,mD]
inductive Lh(A:Ad)(vs:List V)(H:Hp)(Q:VK)(_:XK):Prop
 |mk (L dL:Addr) (r:gM) (x:Lx) (s:Ra) (a:Addr) (ev:Rv) (_:vs=[.ref L,.ref a]) (_:gb A H L dL r x s) (_:qI A (foot L r x) H a (some ev)) (_:(Rc28.listOf (some ev)).length<=100000) (_:s.events.length+1<=sizeLine) (_:∀r' H',gb A H' L dL r' x (Rc28.tell s ev)->foot L r' x=foot L r x->gm (foot L r x) H H'->Q .non H')
def ahF(F:j5 K "tell" "tell" acy f fd)(T:Txt K mg A)(m7:jQ P w K mg base "weight_of_event" dW 3 ["event"] (Le A)):dR P w K mg base dW 4 f fd ["line","event"] (Lh A):=by
 refine F.mZ (N:=["line","event"]) (λ_ _ _ s H _ _ _ hr h _=>?_)
 . obtain⟨L,dL,r,x,s,a,ev,rfl,h,ha,jB,hz,q⟩:=h;refine⟨_,(ao (dz (uR bB fQ fV vQ (aaO 0 rfl) (aa (pv 1) aK)))
    (aG (aa8 0 (aU m7 hr.lw (aa (pv 1) aK)) Hh))),?_⟩
   obtain⟨es,he1,he2⟩:=id h.evs;have hLu:L≠r.gD:=yQ h.nd (i:=0) (j:=6) rfl rfl (by decide);refine⟨rfl,h.ob,T.cN,T.xJ,zR,.inl ⟨rfl,_,fH.of he1⟩,_,rfl,_,_,_,rfl,rfl,he1,by rw[aC,fj he2];omega,?_⟩
   have f1:gm (foot L r x) H (L2.bM H r.gD (.cM (es.map V.ref++[.ref a]))):=gm.bM (cC (j:=6) rfl);have g1:gm [L,r.gD] H (L2.bM H r.gD (.cM (es.map V.ref++[.ref a]))):=gm.bM (.tail _ (.head _));have oL:L2.bM H r.gD (.cM (es.map V.ref++[.ref a])) L=some (.ins A.dF dL (bI r)):=by rw[aM hLu];exact h.ob
   have u1:L2.bM H r.gD (.cM (es.map V.ref++[.ref a])) r.gD=some (.cM ((es++[a]).map V.ref)):=by rw[aB,dm];rfl
   generalize L2.bM H r.gD (.cM (es.map V.ref++[.ref a]))=H1 at f1 g1 oL u1;refine⟨rfl,oL,T.cN,T.pG,rT,_,rfl,foot L r x,a,ev,rfl,ha.iV f1,jB,λH2 s2=>?_⟩;refine⟨_,_,rfl,rfl,_,_,s2 _ _ oL,qg,?_⟩;rw[wM];have g2:gm [L,r.gD] H (L2.bM H2 L (.ins A.dF dL (bI {r with bU:=r.bU+(sizeOf_ ev:Nat)}))):=g1.trans ((cZ.iV s2).trans (gm.bM (.head _)));refine q _ _ (h.told g2 he1 aB (by rw[aM (Ne.symm hLu)];exact s2 _ _ u1) ha) rfl (g2.mono λy hy=>?_)
   rcases aJ.mp hy with rfl|hy
   . exact cC (j:=0) rfl
   . rw[ak.mp hy];exact cC (j:=6) rfl
def S6(l:List Rt):qD [] l=[]:=by cases l<;>rfl
def o8(a:Addr)(as:List Addr)(x:Rt)(l:List Rt):qD (a::as) (x::l)=(Sum.inl (x.id:Int),V.ref a)::qD as l:=rfl
def afN(h:i≠j):¬((Sum.inl (i:Int):xF)=Sum.inl (j:Int)):=λe=>h (by injection e with e;omega)
theorem RC{R:Addr->Rt->Prop}{as:List Addr}(p:Paired R as l)(id:Nat):
 (l.find? (λx=>x.id==id)=none/\Az (qD as l) (.inl (id:Int))=none)\/∃x a,l.find? (λx=>x.id==id)=some x/\Az (qD as l) (.inl (id:Int))=some (.ref a)/\a∈as/\R a x/\x∈l/\x.id=id:=by
 induction p with
 |nil=>exact .inl ⟨rfl,rfl⟩
 |@cons a x as l r t ih=>
  by_cases hx:x.id=id
  . refine .inr ⟨x,a,?_,?_,.head _,r,.head _,hx⟩
    . rw[gG,show (x.id==id)=true by rw[hx];simp]
    . rw[o8,Iu (by rw[hx])]
  . have e:(x.id==id)=false:=by simp[hx]
    rw[gG,e,o8,Ds (afN hx)];rcases ih with⟨h1,h2⟩|⟨y,b,h1,h2,h3,h4,h5,h6⟩
    . exact .inl ⟨h1,h2⟩
    . exact .inr ⟨y,b,h1,h2,.tail _ h3,h4,.tail _ h5,h6⟩
def uG:List Addr->List Rt->Nat->List Addr
 |a::as,x::l,id=>if x.id=id then uG as l id else a::uG as l id
 |_,_,_=>[]
theorem tu:∀(as:List Addr)(l:List Rt)(id:Nat),List.Sublist (uG as l id) as
 |[],_,_=>by unfold uG;exact .slnil
 |a::as,[],_=>by unfold uG;exact List.nil_sublist _
 |a::as,x::l,id=>by
  unfold uG;split
  . exact .cons _ (tu as l id)
  . exact .cons₂ _ (tu as l id)
theorem ahf{R:Addr->Rt->Prop}{as:List Addr}(p:Paired R as l)(id:Nat):
 Bl (qD as l) (.inl (id:Int))=qD (uG as l id) (l.filter λx=>x.id != id)/\Paired R (uG as l id) (l.filter λx=>x.id != id):=by
 induction p with
 |nil=>exact⟨rfl,.nil⟩
 |@cons a x as l r t ih=>
  unfold uG Bl;rw[o8,lQ,lQ];by_cases hx:x.id=id
  . have e1:(x.id != id)=false:=by simp[hx]
    rw[if_pos hx,e1,show decide ((Sum.inl (x.id:Int):xF)≠Sum.inl (id:Int))=false by rw[hx];simp]
    exact ih
  . have e1:(x.id != id)=true:=by simp[hx]
    rw[if_neg hx,e1,show decide ((Sum.inl (x.id:Int):xF)≠Sum.inl (id:Int))=true from az (afN hx)];simp only[rB];exact⟨by rw[o8,<-ih.1];rfl,.cons r ih.2⟩
def acB{id:Nat}(h:l.find? (λx=>x.id==id)=none):(l.filter λx=>x.id != id)=l:=by
 rw[List.filter_eq_self];intro x hx;have:=List.find?_eq_none.mp h x hx;simpa using this
def ft(L:Addr)(r:gM):List Addr:=[L,r.dU,r.gD]
structure Ar(A:Ad)(H:Hp)(L dL:Addr)(r:gM)(s:Ra):Prop where
 ob:H L=some (.ins A.dF dL (bI r))
 failed:r.failed=s.dead
 highest:r.highest=(s.highest:Nat)
 out:H r.dU=some (.cM (bv s.out))
 evs:FN A (ft L r) H r.gD s.events
 wt:r.bU=(ZR s.events:Nat)
 now:qI A (ft L r) H r.eE s.now
 nd:(ft L r).Nodup
def qI.QK{e:Option Rv}(x:qI A X H a e)(g:∀y∈Y,y∈X):qI A Y H a e:=x.BL λy hy=>.inl (g y hy)
def FN.QK{A:Ad}{X Y:List Addr}{H:Hp}{a:Addr}{e:List Rv}(x:FN A X H a e)(g:∀y∈Y,y∈X):FN A Y H a e:=by
 obtain⟨es,h1,h2⟩:=x;exact⟨es,h1,bN h2 λ_ _ z=>z.QK g⟩
def qK:∀y∈ft L r,y∈foot L r x:=λy hy=>by
 unfold ft at hy;simp only[aJ,cX,or_false]at hy;rcases hy with rfl|rfl|rfl
 . exact cC (j:=0) rfl
 . exact cC (j:=5) rfl
 . exact cC (j:=6) rfl
def gb.pd(h:gb A H L dL r x s):Ar A H L dL r s:=
 ⟨h.ob,h.failed.trans h.dead.symm,h.highest,h.out,h.evs.QK qK,h.wt,h.now.QK qK,by
  have a:=yQ h.nd (i:=0) (j:=5) rfl rfl (by decide);have b:=yQ h.nd (i:=0) (j:=6) rfl rfl (by decide);have c:=yQ h.nd (i:=5) (j:=6) rfl rfl (by decide);unfold ft;simp only[dZ,aJ,cX,or_false,not_false_eq_true,sS,and_true,not_or];exact⟨⟨a,b⟩,c⟩⟩
def Ar.alC(h:Ar A H L dL r s){c:Nat}(o:gm [L,r.dU] H H')(e1:H' L=some (.ins A.dF dL (bI {r with failed:=true})))(e2:H' r.dU=some (.cM (bv (s.out++Rc28.frame 7 0 0 (Rc28.be 4 s.highest++Rc28.be 4 c))))):
 Ar A H' L dL {r with failed:=true} (Rc28.die s c):=by
 have oX:gm (ft L r) H H':=o.mono λy hy=>by
  rcases aJ.mp hy with rfl|hy
  . exact .head _
  . rw[ak.mp hy];exact .tail _ (.head _)
 exact⟨e1,rfl,h.highest,e2,h.evs.iV oX o (CV h.nd 2 0 1 rfl rfl rfl),h.wt,h.now.iV oX,h.nd⟩
def gb.Yh(h:gb A H L dL r x s){id:Nat}(o:gm [r.streams] H H')(e:H' r.streams=some (.dK (Bl (qD x.as s.streams) (.inl (id:Int))))):gb A H' L dL r {x with as:=uG x.as s.streams id} (Rc28.drop s id):=by
 obtain⟨d1,d2⟩:=ahf h.tZ.st id;have hX:∀y∈foot L r {x with as:=uG x.as s.streams id},y∈foot L r x:=λy hy=>by
  unfold foot at hy ⊢;simp only[aJ,dY]at hy ⊢;rcases hy with z|z|z|z|z|z|z|z|z
  . exact .inl z
  . exact .inr (.inl z)
  . exact .inr (.inr (.inl z))
  . exact .inr (.inr (.inr (.inl z)))
  . exact .inr (.inr (.inr (.inr (.inl z))))
  . exact .inr (.inr (.inr (.inr (.inr (.inl z)))))
  . exact .inr (.inr (.inr (.inr (.inr (.inr (.inl z))))))
  . exact .inr (.inr (.inr (.inr (.inr (.inr (.inr (.inl z)))))))
  . exact .inr (.inr (.inr (.inr (.inr (.inr (.inr (.inr ((tu _ _ _).mem z))))))))
 have hY:∀y∈[r.streams],y∈foot L r x:=λy hy=>by rw[ak.mp hy];exact cC (j:=2) rfl
 have oX:gm (foot L r x) H H':=o.mono hY;have t:=h.Gf (j:=2) rfl;have nd':(foot L r {x with as:=uG x.as s.streams id}).Nodup:=by
  refine List.Sublist.nodup ?_ h.nd;unfold foot;exact .cons₂ _ (.cons₂ _ (.cons₂ _ (.cons₂ _ (.cons₂ _ (.cons₂ _ (.cons₂ _ (List.Sublist.append_left (tu _ _ _) _)))))))
 refine⟨o _ _ h.ob (rH h.nd 0 2 rfl rfl),h.start,o _ _ h.part (rH h.nd 1 2 rfl rfl),h.settled,h.failed,h.dead,h.highest,h.window,h.first,h.said,o _ _ h.out (rH h.nd 5 2 rfl rfl),h.Gj.iV o t.1,⟨by rw[e,d1];rfl,?_,?_⟩,?_,h.Dr,(h.evs.iV oX o (rH h.nd 6 2 rfl rfl)).QK hX,h.wt,(h.now.iV oX).QK hX,nd',λy hy=>?_⟩
 . exact vq d2 λa ha _ z=>z.iV o (t.2 a ((tu _ _ _).mem ha))
 . exact List.Sublist.nodup (List.Sublist.map _ List.filter_sublist) h.tZ.Hg
 . have tb:=h.yd.iV o hY (rH h.nd 3 2 rfl rfl) (rH h.nd 4 2 rfl rfl);obtain⟨as,h1,h2⟩:=tb.nw;obtain⟨fs,h3,h4⟩:=tb.fi;exact⟨tb.ob,⟨as,h1,bN h2 λ_ _ z=>z.BL λy hy=>.inl (hX y hy)⟩,⟨fs,h3,bN h4 λ_ _ z=>z.BL λy hy=>.inl (hX y hy)⟩,λm=>tb.fX (hX _ m),cC (j:=3) rfl,cC (j:=4) rfl⟩
 . exact(h.wL.iV o λy hy=>by rw[ak.mp hy];exact⟨_,e⟩) y (hX y hy)
def zO{A:Around}{k:Nat}(hr:pB k A):A.units+1<cLine:=by have:=hr.un;omega
inductive Zu(A:Ad)(vs:List V)(H:Hp)(Q:VK)(_:XK):Prop
 |mk (L dL:Addr) (r:gM) (s:Ra) (id:Nat) (_:vs=[.ref L,.int (id:Int)]) (_:H L=some (.ins A.dF dL (bI r))) (_:r.highest=(s.highest:Nat)) (_:Q (.bl (idle s id)) H)
def acp(F:j5 K "is_idle" "is_idle" O7 f fd)(T:Txt K mg A):dR P w K mg base dW 1 f fd ["line","number"] (Zu A):=by
 refine F.mZ (N:=["line","number"]) (λ_ _ _ s _ _ Q _ _ h _=>?_)
 . obtain⟨L,dL,r,s,id,rfl,hL,hh,q⟩:=h;refine⟨_,(aG (aZ (adw (mL qF (pv 1) (aaO 0 rfl) (bO _)) (yw (mL pI (iW TQ (pv 1) bx) bx (bO _)))))),?_⟩;have e:idle s id=(decide ((r.highest:Int)<(id:Int))||decide (V.int ((id:Int)%2)=V.int 0)):=by
    unfold idle;rw[hh,bR];simp only[oJ,bK,je,V.int.injEq];omega
   rw[e]at q;refine acT (λQ q=>⟨_,rfl,rfl,hL,T.cN,T.tK,yr,_,_,rfl,rfl,q⟩) (λ_=>λQ q=>?_) _ q;exact⟨_,rfl,_,_,rfl,rfl,(show (0:Int)<2 by decide),rfl,q⟩
inductive agC(A:Ad)(vs:List V)(H:Hp)(Q:VK)(_:XK):Prop
 |mk (L dL:Addr) (r:gM) (s:Ra) (_:vs=[.ref L]) (_:H L=some (.ins A.dF dL (bI r))) (_:H r.dU=some (.cM (bv s.out))) (_:r.bU=(ZR s.events:Nat)) (_:Q (.bl (full s)) H)
inductive Zx(A:Ad)(vs:List V)(H:Hp)(Q:VK)(_:XK):Prop
 |mk (L dL:Addr) (r:gM) (o:Rb) (_:vs=[.ref L]) (_:H L=some (.ins A.dF dL (bI r))) (_:H r.dU=some (.cM (bv o))) (_:Q (.bl (decide (CALM<o.length))) H)
def KQ(F:j5 K "too_much_unsent" "too_much_unsent" wB f fd)(T:Txt K mg A):dR P w K mg base dW 1 f fd ["line"] (Zx A):=by
 refine F.mZ (N:=["line"]) (λ_ _ _ _ _ _ _ _ _ h _=>?_)
 . obtain⟨L,dL,r,o,rfl,hL,ho,q⟩:=h;refine⟨_,(aG (aZ (mL qF (bV bc (by rfl) T.gO aO (aa (aaO 0 rfl) aK)) (cR T.G8) (bO _)))),?_⟩;refine⟨rfl,hL,T.cN,T.lu,mU,_,_,rfl,.inl (fH.of ho),_,_,rfl,rfl,?_⟩;have e:decide (CALM<o.length)=decide ((65536:Int)<(((bv o).length:Nat):Int)):=by
    unfold CALM;rw[cA,bR];simp only[bK];omega
   rw[e]at q;exact q
def YS(F:j5 K "must_wait" "must_wait" Ia f fd)(T:Txt K mg A)(jx:jQ P w K mg base "too_much_unsent" dW 1 ["line"] (Zx A)):dR P w K mg base dW 2 f fd ["line"] (agC A):=by
 refine F.mZ (N:=["line"]) (λ_ _ _ s _ _ Q _ hr h _=>?_)
 . obtain⟨L,dL,r,s,rfl,hL,ho,hw,q⟩:=h;refine⟨_,(aG (aZ (adw (aU jx hr.lw (aa (pv 0) aK)) (yw (mL qF (aaO 0 rfl) (cR T.G8) (bO _)))))),?_⟩;have e:full s=(decide (CALM<s.out.length)||decide ((65536:Int)<r.bU)):=by
    unfold full CALM;rw[hw,bR];simp only[oJ,bK];unfold ZR;omega
   rw[e]at q;refine acT (λQ q=>⟨_,rfl,L,dL,r,s.out,rfl,hL,ho,q⟩) (λ_=>λQ q=>?_) _ q;exact⟨rfl,hL,T.cN,T.pG,rT,_,_,rfl,rfl,q⟩
inductive adJ(A:Ad)(vs:List V)(H:Hp)(Q:VK)(_:XK):Prop
 |mk (L dL:Addr) (r:gM) (s:Ra) (c:Nat) (_:vs=[.ref L,.int (c:Int)]) (_:Ar A H L dL r s) (_:s.out.length+200<=sizeLine) (_:∀H',Ar A H' L dL {r with failed:=true} (Rc28.die s c)->gm [L,r.dU] H H'->Q .non H')
def YL(F:j5 K "fail_line" "fail_line" HX f fd)(T:Txt K mg A)(dO:jQ P w K mg base "bytes_of_number" dW 1 ["number","count"] aeM)(eY:jQ P w K mg base "send_frame" dW 2 ["line","kind","flags","stream","body"] (xr A)):dR P w K mg base dW 3 f fd ["line","code"] (adJ A):=by
 refine F.mZ (N:=["line","code"]) (λ_ _ _ s H _ _ _ hr h _=>?_)
 . obtain⟨L,dL,r,s,c,rfl,h,hz,q⟩:=h;refine⟨_,(ao (dz (aU eY hr.lw (aa (pv 0) (aa (cR T.X5) (aa bx (aa bx (aa (iW El (aU dO hr.lw (aa (aaO 0 rfl) (aa bx aK))) (aU dO hr.lw (aa (pv 1) (aa bx aK)))) aK)))))))
    (aG (abu 0 qG rfl))),?_⟩
   have hLu:L≠r.dU:=yQ h.nd (i:=0) (j:=1) rfl rfl (by decide);refine⟨_,rfl,rfl,h.ob,T.cN,T.tK,yr,s.highest,4,by rw[h.highest];rfl,by decide,λp1 hp1 H1 e1 s1=>?_⟩
   refine⟨_,rfl,c,4,rfl,by decide,λp2 hp2 H2 e2 s2=>?_⟩;refine⟨_,_,_,_,rfl,rfl,s2 _ _ e1,e2,by rw[cA,cA,nq,nq];decide,λp3 hp3=>?_⟩
   rw[<-uH];have s3:cZ H (L2.bM H2 p3 (.cM (bv (Rc28.be 4 s.highest++Rc28.be 4 c)))):=λy o e=>by
    have e':=s2 _ _ (s1 _ _ e);rw[aM (aD e' hp3)];exact e'
   have e3:L2.bM H2 p3 (.cM (bv (Rc28.be 4 s.highest++Rc28.be 4 c))) p3=some (.cM (bv (Rc28.be 4 s.highest++Rc28.be 4 c))):=aB;have hp3u:p3≠r.dU:=Ne.symm (aD (s2 _ _ (s1 _ _ h.out)) hp3);generalize L2.bM H2 p3 (.cM (bv (Rc28.be 4 s.highest++Rc28.be 4 c)))=H3 at s3 e3;refine⟨L,dL,r,s.out,7,0,0,p3,_,rfl,s3 _ _ h.ob,s3 _ _ h.out,e3,hp3u,by decide,by decide,by rw[aF,nq,nq];omega,λH4 e4 o4=>?_⟩
   have oL:H4 L=some (.ins A.dF dL (bI r)):=o4 _ _ (s3 _ _ h.ob) λm=>hLu (ak.mp m);refine⟨rfl,oL,T.cN,T.pN,qg,?_⟩;rw[T7];have o5:gm [L,r.dU] H (L2.bM H4 L (.ins A.dF dL (bI {r with failed:=true}))):=(cZ.iV s3).trans ((o4.mono λy hy=>.tail _ hy).trans (gm.bM (.head _)));exact q _ (h.alC o5 aB (by rw[aM (Ne.symm hLu)];exact e4)) o5
inductive yN(A:Ad)(vs:List V)(H:Hp)(Q:VK)(_:XK):Prop
 |mk (L dL:Addr) (r:gM) (x:Lx) (s:Ra) (id c:Nat) (_:vs=[.ref L,.int (id:Int),.int (c:Int)]) (_:gb A H L dL r x s) (_:s.out.length+200<=sizeLine) (_:∀x' H',gb A H' L dL r x' (Rc28.fail s id c)->(∀y∈foot L r x',y∈foot L r x)->gm (foot L r x) H H'->Q .non H')
def Tp(F:j5 K "fail_stream" "fail_stream" Ce f fd)(T:Txt K mg A)(dO:jQ P w K mg base "bytes_of_number" dW 1 ["number","count"] aeM)(eY:jQ P w K mg base "send_frame" dW 2 ["line","kind","flags","stream","body"] (xr A)):dR P w K mg base dW 3 f fd ["line","number","code"] (yN A):=by
 refine F.mZ (N:=["line","number","code"]) (λ_ _ _ s H _ _ _ hr h _=>?_)
 . obtain⟨L,dL,r,x,s,id,c,rfl,h,hz,q⟩:=h;have hu:=zO hr;refine⟨_,(ao (dz (aU eY hr.lw (aa (pv 0) (aa (cR T.Vm) (aa bx (aa (pv 1) (aa (aU dO hr.lw (aa (pv 2) (aa bx aK))) aK)))))))
    (aG (cV (O3 (Y5 hu (pv 1) (aaO 0 rfl))) (aG (dz (TY (aaO 0 rfl) (pv 1) ⟨rfl,rfl,rfl,rfl⟩))) bC))),?_⟩
   refine⟨_,rfl,_,rfl,_,rfl,c,4,rfl,by decide,λp1 hp1 H1 e1 s1=>?_⟩;refine⟨L,dL,r,s.out,3,0,id,p1,_,rfl,s1 _ _ h.ob,s1 _ _ h.out,e1,Ne.symm (aD h.out hp1),by decide,by decide,by rw[nq];omega,λH2 e2 o2=>?_⟩
   have o2':gm [r.dU] H H2:=(cZ.iV s1).trans o2;have h2:gb A H2 L dL r x (Rc28.send s 3 0 id (Rc28.be 4 c)):=h.acC o2' e2;have oX2:gm (foot L r x) H H2:=o2'.mono λy hy=>by rw[ak.mp hy];exact cC (j:=5) rfl
   have e:Rc28.fail s id c=Rc28.drop (Rc28.send s 3 0 id (Rc28.be 4 c)) id:=rfl;rw[e]at q;generalize Rc28.send s 3 0 id (Rc28.be 4 c)=s2 at h2 q;refine⟨_,rfl,rfl,h2.ob,T.cN,T.eV,eN,r.streams,_,rfl,uY.k (k:=.inl (id:Int)) h2.tZ.ob,_,rfl,?_⟩;rcases RC h2.tZ.st id with⟨v1,v2⟩|⟨y,a,v1,v2,v3,v4,_⟩
   . rw[v2];refine cY ?_;refine q x H2 ?_ (λ_ hy=>hy) oX2;have:Rc28.drop s2 id=s2:=by unfold Rc28.drop;rw[acB v1]
     rw[this];exact h2
   . rw[v2];refine cQ ?_;refine⟨rfl,h2.ob,T.cN,T.eV,eN,r.streams,rfl,?_,_,rfl,_,_,_,h2.tZ.ob,rfl,v2,?_⟩
     . exact .inl ⟨_,.inl h2.tZ.ob⟩
     . have o3:gm [r.streams] H2 (L2.bM H2 r.streams (.dK (Bl (qD x.as s2.streams) (.inl (id:Int))))):=gm.bM (.head _);refine q _ _ (h2.Yh o3 aB) (λy hy=>?_) (oX2.trans (o3.mono λy hy=>by rw[ak.mp hy];exact cC (j:=2) rfl))
       unfold foot at hy ⊢;simp only[aJ,dY]at hy ⊢;rcases hy with z|z|z|z|z|z|z|z|z
       . exact .inl z
       . exact .inr (.inl z)
       . exact .inr (.inr (.inl z))
       . exact .inr (.inr (.inr (.inl z)))
       . exact .inr (.inr (.inr (.inr (.inl z))))
       . exact .inr (.inr (.inr (.inr (.inr (.inl z)))))
       . exact .inr (.inr (.inr (.inr (.inr (.inr (.inl z))))))
       . exact .inr (.inr (.inr (.inr (.inr (.inr (.inr (.inl z)))))))
       . exact .inr (.inr (.inr (.inr (.inr (.inr (.inr (.inr ((tu _ _ _).mem z))))))))
def gf(X:List Addr)(H:Hp)(X':List Addr)(H':Hp):Prop:=gm X H H'/\∀y∈X',y∈X\/H y=none
def gf.trans{X1 X2:List Addr}(a:gf X H X1 H1)(b:gf X1 H1 X2 H2):gf X H X2 H2:=by
 have out:∀c o,H c=some o->c∉X->c∉X1:=λc o e n m=>by
  rcases a.2 c m with z|z
  . exact n z
  . rw[e]at z;cases z
 refine⟨λc o e n=>b.1 c o (a.1 c o e n) (out c o e n),λy hy=>?_⟩;rcases b.2 y hy with z|z
 . exact a.2 y z
 . by_cases n:y∈X
   . exact .inl n
   . cases e:H y with
     |none=>exact .inr rfl
     |some o=>rw[a.1 y o e n]at z;cases z
def gf.refl{X:List Addr}{H:Hp}:gf X H X H:=⟨gm.refl,λ_ h=>.inl h⟩
def gf.of(o:gm X H H')(h:∀y∈X',y∈X):gf X H X' H':=⟨o,λy hy=>.inl (h y hy)⟩
def gf.out(a:gf X H X' H')(e:H c=some o)(n:c∉X):H' c=some o/\c∉X':=⟨a.1 c o e n,λm=>by
 rcases a.2 c m with z|z
 . exact n z
 . rw[e]at z;cases z⟩
def wJ(A:Ad)(L dL:Addr)(X:List Addr)(H:Hp)(t:Ra)(Q:VK):Prop:=
 (∀r' x' H',gb A H' L dL r' x' t->gf X H (foot L r' x') H'->Q (.int 0) H') /\
 (∀(c:Nat) s' r' H',t=Rc28.die s' c->0<c->Ar A H' L dL r' s'->gf X H (ft L r') H'->Q (.int (c:Int)) H')
def wJ.ok{t:Ra}(p:wJ A L dL X H t Q){x':Lx}(h:gb A H' L dL r' x' t)(s:gf X H (foot L r' x') H'):Q (.int 0) H':=p.1 _ _ _ h s
def wJ.Wm{t:Ra}(p:wJ A L dL X H t Q){c:Nat}{s':Ra}(e:t=Rc28.die s' c)(hc:0<c)(h:Ar A H' L dL r' s')(s:gf X H (ft L r') H'):Q (.int (c:Int)) H':=p.2 c s' _ _ e hc h s
def afC{o:Obj}{gK:List (xF×V)}(Pv:Nat->St->Hp->Prop)(h0:Pv 0 σ H)(hl:∀i σ H,i<=gK.length->Pv i σ H->H d=some (.frz o (.dK gK)))(hs:∀i k x σ H,gK[i]? = some (k,x)->Pv i σ H->g x σ H λσ2 H2=>tb {D with nx:=Pv (i+1),ct:=Pv (i+1),bk:=D.nx} σ2 H2)(hd:∀σ H,Pv gK.length σ H->D.nx σ H):
 ∃W:Nat->Nat->St->Hp->Prop,(∃m,W 0 m σ H)/\∀i m σ H,W i m σ H ->
  ((Itd d o gK).Im i H/\D.nx σ H)\/((Itd d o gK).go i H/\∃N:St->Hp->Prop,(∀σ' H',N σ' H'->∃m',m'<m/\W (i+1) m' σ' H')/\∀x H',(Itd d o gK).yld i H x H'->g x σ H' λσ2 H2=>tb {D with nx:=N,ct:=N,bk:=D.nx} σ2 H2):=by
 refine⟨λi m σ H=>m=gK.length-i/\i<=gK.length/\Pv i σ H,⟨gK.length,by simp,bW _,h0⟩,?_⟩;rintro i m σ H ⟨rfl,hi,p⟩;have q:=hl i σ H hi p;by_cases hlt:i<gK.length
 . refine .inr ⟨⟨q,hlt⟩,Pv (i+1),λσ' H' p'=>⟨gK.length-(i+1),by omega,rfl,hlt,p'⟩,λx H' y=>?_⟩;obtain⟨rfl,k,hk⟩:=y;exact hs i k x σ _ hk p
 . have:i=gK.length:=by omega
   subst this;exact .inl ⟨⟨q,aH _⟩,hd σ H p⟩
theorem ait:∀{as:List Addr}{l:List Rt}{i:Nat}{k:xF}{v:V},(qD as l)[i]? = some (k,v)->∃a x,as[i]? = some a/\l[i]? = some x/\v=.ref a
 |[],l,i,k,v,h=>by rw[S6]at h;simp at h
 |a::as,[],i,k,v,h=>by simp[qD]at h
 |a::as,x::l,0,k,v,h=>by
  rw[o8]at h;simp only[List.getElem?_cons_zero,lg,Prod.mk.injEq]at h;exact⟨a,x,rfl,rfl,h.2.symm⟩
 |a::as,x::l,i+1,k,v,h=>by
  rw[o8,iY]at h;obtain⟨b,y,h1,h2,h3⟩:=ait h;exact⟨b,y,by simpa using h1,by simpa using h2,h3⟩
def ab8{R:Addr->Rt->Prop}{as:List Addr}(p:Paired R as l):(qD as l).length=l.length:=by
 unfold qD;rw[List.length_zipWith,fj p];simp
theorem K4{A:Ad}{H H':Hp}{a:Addr}{y:Rt}(o:gm [a] H H')(ha:Qo A H' a y):∀{as:List Addr}{m:List Rt}{i:Nat},Paired (Qo A H) as m->as.Nodup->as[i]? = some a->Paired (Qo A H') as (m.set i y)
 |_,_,i,.nil,_,h=>by simp at h
 |_,_,0,.cons (l₁:=as) r t,nd,h=>by
  simp only[List.getElem?_cons_zero,lg]at h;subst h;refine .cons ha (vq t λb hb _ z=>z.iV o λm=>?_);rw[ak.mp m]at hb;exact(dZ.mp nd).1 hb
 |_,_,i+1,.cons r t,nd,h=>by
  simp only[iY]at h;refine .cons (r.iV o λm=>?_) (K4 o ha t (dZ.mp nd).2 h);rw[ak.mp m]at nd;exact(dZ.mp nd).1 (cD h)
theorem ado{g:Rt->Rt}:∀{l:List Rt}{i:Nat}{x:Rt},l[i]? = some x->((l.take i).map g++l.drop i).set i (g x)=(l.take (i+1)).map g++l.drop (i+1)/\((l.take i).map g++l.drop i)[i]? = some x
 |[],i,x,h=>by simp at h
 |y::l,0,x,h=>by simp at h;subst h;exact⟨rfl,rfl⟩
 |y::l,i+1,x,h=>by
  simp only[iY]at h;obtain⟨h1,h2⟩:=ado (g:=g) h;refine⟨?_,?_⟩
  . show g y::(((l.take i).map g++l.drop i).set i (g x))=g y::((l.take (i+1)).map g++l.drop (i+1))
    rw[h1]
  . exact h2
theorem afM:∀{as:List Addr}{l m:List Rt},l.map (·.id)=m.map (·.id)->qD as l=qD as m
 |[],l,m,_=>by rw[S6,S6]
 |a::as,[],[],_=>rfl
 |a::as,[],_::_,h=>by simp at h
 |a::as,_::_,[],h=>by simp at h
 |a::as,x::l,y::m,h=>by
  simp only[bG,List.cons.injEq]at h;rw[o8,o8,h.1,afM h.2]
def gb.aik(h:gb A H L dL r x s):x.as.Nodup:=by
 have nd:=h.nd;unfold foot at nd;simp only[dZ]at nd;exact(kZ.mp nd.2.2.2.2.2.2.2).2.1
def Rg(ha:a∈x.as):a∈foot L r x:=by
 unfold foot;exact .tail _ (.tail _ (.tail _ (.tail _ (.tail _ (.tail _ (.tail _ (cF _ ha)))))))
def Te(nd:(foot L r x).Nodup)(hj:(foot L r x)[j]? = some b)(hb:j<7:=by decide):b∉x.as:=λm=>lN nd (cF _ m) hj hb rfl
def Bq(nd:(foot L r x).Nodup)(hj:(foot L r x)[j]? = some b)(h0:j≠0:=by decide)(hb:j<7:=by decide):b∉L::x.as:=λm=>by
 rcases aJ.mp m with m|m
 . exact yQ nd hj (j:=0) rfl h0 m
 . exact Te nd hj hb m
def gb.z6(h:gb A H L dL r x s){s':Ra}(o:gm (L::x.as) H H')(e:H' L=some (.ins A.dF dL (bI r')))(hst:Paired (Qo A H') x.as s'.streams)(Jr:s'.streams.map (·.id)=s.streams.map (·.id))(hf:foot L r' x=foot L r x)(f1:r'.gR=(s'.start:Nat))(f2:r'.di=r.di)(g2:s'.part=s.part)(f3:r'.dX=s'.settled)(f4:r'.gC=r.gC)(g4:s'.block=s.block)(f5:r'.failed=false)(g5:s'.dead=false)(f6:r'.highest=(s'.highest:Nat))(f7:r'.streams=r.streams)(f8:r'.window=s'.window)(f9:r'.fC=s'.first)(fs:r'.gn=s'.said)(f10:r'.table=r.table)(g10:s'.table=s.table)(f11:r'.dU=r.dU)(g11:s'.out=s.out)(f12:r'.gD=r.gD)(g12:s'.events=s.events)(f13:r'.bU=r.bU)(f14:r'.eE=r.eE)(g14:s'.now=s.now):gb A H' L dL r' x s':=by
 have hY:∀y∈L::x.as,y∈foot L r x:=λy hy=>by
  rcases aJ.mp hy with rfl|hy
  . exact cC (j:=0) rfl
  . exact Rg hy
 have oX:gm (foot L r x) H H':=o.mono hY;have nbs:∀a∈x.bs,a∉L::x.as:=λa ha m=>by
  rcases aJ.mp m with m|m
  . exact lN h.nd (bY _ ha) (j:=0) rfl (by decide) m
  . exact ac2 h.nd ha m rfl
 refine⟨e,f1,by rw[f2,g2];exact o _ _ h.part (Bq h.nd (j:=1) rfl),f3,f5,g5,f6,f8,f9,fs,by rw[f11,g11];exact o _ _ h.out (Bq h.nd (j:=5) rfl),by rw[f4,g4];exact h.Gj.iV o nbs,
  ⟨by rw[f7,afM Jr];exact o _ _ h.tZ.ob (Bq h.nd (j:=2) rfl),hst,by rw[Jr];exact h.tZ.Hg⟩,by rw[hf,f10,g10];exact h.yd.iV o hY (Bq h.nd (j:=3) rfl) (Bq h.nd (j:=4) rfl),by rw[g10];exact h.Dr,
  by rw[hf,f12,g12];exact h.evs.iV oX o (Bq h.nd (j:=6) rfl),by rw[f13,g12];exact h.wt,by rw[hf,f14,g14];exact h.now.iV oX,by rw[hf];exact h.nd,?_⟩
 rw[hf];refine h.wL.iV o λy hy=>?_;rcases aJ.mp hy with rfl|hy
 . exact⟨_,e⟩
 . obtain⟨i,hi⟩:=jo.mp hy;obtain⟨z,_,dx,rr,hz,_⟩:=L2.gW hst hi;exact⟨_,hz⟩
def gb.pd'(h:gb A H L dL r x s)(o:gm Y H H')(hY:∀y∈Y,y∈foot L r x)(e:H' L=some (.ins A.dF dL (bI r')))(n1:r.dU∉Y)(n2:r.gD∉Y)(f5:r'.failed=r.failed:=by rfl)(f6:r'.highest=r.highest:=by rfl)(f11:r'.dU=r.dU:=by rfl)(f12:r'.gD=r.gD:=by rfl)(f13:r'.bU=r.bU:=by rfl)(f14:r'.eE=r.eE:=by rfl):Ar A H' L dL r' s:=by
 have hf:ft L r'=ft L r:=by unfold ft;rw[f11,f12]
 have oX:=o.mono hY;exact⟨e,f5.trans (h.failed.trans h.dead.symm),f6.trans h.highest,by rw[f11];exact o _ _ h.out n1,by rw[hf,f12];exact(h.evs.iV oX o n2).QK qK,f13.trans h.wt,by rw[hf,f14];exact(h.now.iV oX).QK qK,by rw[hf];exact h.pd.nd⟩
def grown(v first:Int)(y:Rt):Rt:={y with window:=y.window+(v-first)}
def cfw(s:Ra)(v:Int):Ra:=if TOP<v then Rc28.die s 3 else if ((s.streams.map (grown v s.first)).any λx=>decide (TOP<x.window))=true then Rc28.die s 3 else {s with first:=v,streams:=s.streams.map (grown v s.first)}
inductive aiw(A:Ad)(vs:List V)(H:Hp)(Q:VK)(_:XK):Prop
 |mk (L dL:Addr) (r:gM) (x:Lx) (s:Ra) (v:Nat) (_:vs=[.ref L,.int (v:Int)]) (_:gb A H L dL r x s) (_:wJ A L dL (foot L r x) H (cfw s (v:Int)) Q)
def Ek(F:j5 K "change_first_window" "change_first_window" sE f fd)(T:Txt K mg A):dR P w K mg base dW 1 f fd ["line","how_much"] (aiw A):=by
 refine F.mZ (N:=["line","how_much","change","stream"]) (λ_ _ _ s H _ _ _ _ h nd0=>?_)
 . obtain⟨L,dL,r,x,s,v,rfl,h,q⟩:=h;refine⟨_,(ao (cV (bF qF (pv 1) (cR T.BK) (bO _)) (aG (aZ (cR T.vo))) bC)
    (ao (cB (i:=2) nd0 rfl (Or.inl rfl) (iW Em (pv 1) (aaO 0 rfl)))
    (ao (abu 0 (pv 1) rfl)
    (ao (ahR (wj b8 rfl (aeF (aaO 0 rfl)) (jY (i:=3) nd0 rfl (Or.inl rfl)) (ao (aa8 3 (pv 2) Hh)
    (aG (cV (bF qF (aaO 3 rfl) (cR T.BK) (bO _)) (aG (aZ (cR T.vo))) bC)))))
    (aG (aZ (cR T.oA))))))),?_⟩
   have ftf:∀y∈ft L r,y∈foot L r x:=qK;refine⟨_,rfl,_,_,rfl,rfl,_,rfl,?_⟩;by_cases hv:TOP<(v:Int)
   . rw[show decide ((v:Int)>2147483647)=true from az (by unfold TOP at hv;omega)]
     refine cQ ?_;exact q.Wm (c:=3) (by unfold cfw;rw[if_pos hv]) (by decide) h.pd (gf.of gm.refl ftf)
   . rw[show decide ((v:Int)>2147483647)=false from aq (by unfold TOP at hv;omega)]
     refine cY ?_;refine⟨_,rfl,rfl,h.ob,T.cN,T.qb,xP,_,_,rfl,rfl,?_⟩;refine⟨_,rfl,rfl,h.ob,T.cN,T.qb,qg,?_⟩;rw[Hu,h.first]
     have o1:gm [L] H (L2.bM H L (.ins A.dF dL (bI {r with fC:=(v:Int)}))):=gm.bM (.head _);have eL:L2.bM H L (.ins A.dF dL (bI {r with fC:=(v:Int)})) L=some (.ins A.dF dL (bI {r with fC:=(v:Int)})):=aB;have nsd:r.streams∉[L]:=rH h.nd 2 0 rfl rfl;have st1:Z6 A (L2.bM H L (.ins A.dF dL (bI {r with fC:=(v:Int)}))) r.streams x.as s.streams:=h.tZ.iV o1 nsd (h.Gf (j:=0) rfl).2;generalize L2.bM H L (.ins A.dF dL (bI {r with fC:=(v:Int)}))=H1 at o1 eL st1;refine⟨r.streams,_,st1.ob,trivial,λod=>?_⟩;have hLs:L≠r.streams:=yQ h.nd (i:=0) (j:=2) rfl rfl (by decide);have nas:r.streams∉x.as:=Te h.nd (j:=2) rfl;have nLas:L∉x.as:=Te h.nd (j:=0) rfl;have hkl:=ab8 st1.st;refine⟨rfl,by rw[aM hLs];exact eL,T.cN,T.eV,eN (r:={r with fC:=(v:Int)}),r.streams,od,_,rfl,aB,afC (λi σ H2=>(∃t:Option V,σ=[some (.ref L),some (.int (v:Int)),some (.int ((v:Int)-s.first)),t])/\gm x.as (L2.bM H1 r.streams (.frz od (.dK (qD x.as s.streams)))) H2 /\
      Paired (Qo A H2) x.as ((s.streams.take i).map (grown v s.first)++s.streams.drop i)/\((s.streams.take i).map (grown v s.first)).all (λy=>!decide (TOP<y.window))=true) ⟨⟨none,rfl⟩,gm.refl,?_,rfl⟩ ?_ ?_ ?_⟩
     . have:gm [r.streams] H1 (L2.bM H1 r.streams (.frz od (.dK (qD x.as s.streams)))):=gm.bM (.head _);exact vq st1.st λa ha _ z=>z.iV this λm=>nas (by rw[<-ak.mp m];exact ha)
     . rintro i σ H2 hi ⟨_,o2,_⟩;exact o2 _ _ aB nas
     . rintro i k y σ H2 hk ⟨⟨t,rfl⟩,o2,p2,al⟩;obtain⟨a,z,ha,hz,rfl⟩:=ait hk;obtain⟨m1,m2⟩:=ado (g:=grown v s.first) hz
       obtain⟨a',ha',dx,rs,e1,e2,e3⟩:=gW p2 m2;obtain rfl:a'=a:=cz (ha'.symm.trans ha);have ham:a'∈x.as:=cD ha;refine⟨rfl,e1,T.nF,T.o9,qp,_,rfl,_,_,rfl,rfl,_,_,e1,zz,?_⟩;rw[wY];have o3:gm [a'] H2 (L2.bM H2 a' (.ins A.Stream dx (gV {rs with window:=rs.window+((v:Int)-s.first)}))):=gm.bM (.head _)
       have u3:L2.bM H2 a' (.ins A.Stream dx (gV {rs with window:=rs.window+((v:Int)-s.first)})) a'=some (.ins A.Stream dx (gV {rs with window:=rs.window+((v:Int)-s.first)})):=aB
       generalize L2.bM H2 a' (.ins A.Stream dx (gV {rs with window:=rs.window+((v:Int)-s.first)}))=H3 at o3 u3
       have o23:=o2.trans (o3.mono λy hy=>by rw[ak.mp hy];exact ham)
       have ew:rs.window+((v:Int)-s.first)=(grown v s.first z).window:=by rw[e2];rfl
       refine⟨rfl,u3,T.nF,T.o9,qp,_,_,rfl,rfl,_,rfl,?_⟩;show if decide (rs.window+((v:Int)-s.first)>2147483647)=true then _ else _
       by_cases hw:TOP<(grown v s.first z).window
       . rw[show decide (rs.window+((v:Int)-s.first)>2147483647)=true from az (by rw[ew];exact hw)]
         refine cQ ⟨o23 _ _ aB nas,?_⟩;have any:((s.streams.map (grown v s.first)).any λx=>decide (TOP<x.window))=true:=nQ.mpr ⟨_,fL.mpr ⟨z,cD hz,rfl⟩,az hw⟩
         have o4:gm (L::x.as) H (L2.bM H3 r.streams (.dK (qD x.as s.streams))):=λc u e hc=>by
          have hc1:c∉[L]:=λm=>hc (by rw[ak.mp m];exact .head _)
          have hc2:c∉x.as:=λm=>hc (.tail _ m);by_cases hcs:c=r.streams
          . subst hcs;have:u=.dK (qD x.as s.streams):=by have:=h.tZ.ob;rw[e]at this;exact cz this
            rw[aB,this]
          . rw[aM hcs];exact o23 c u (by rw[aM hcs];exact o1 c u e hc1) hc2
         have eL4:L2.bM H3 r.streams (.dK (qD x.as s.streams)) L=some (.ins A.dF dL (bI {r with fC:=(v:Int)})):=by
          rw[aM hLs];exact o23 _ _ (by rw[aM hLs];exact eL) nLas
         have hYm:∀y∈L::x.as,y∈foot L r x:=λy hy=>by
          rcases aJ.mp hy with rfl|hy
          . exact cC (j:=0) rfl
          . exact Rg hy
         refine q.Wm (c:=3) (s':=s) (r':={r with fC:=(v:Int)}) (by unfold cfw;rw[if_neg hv,if_pos any]) (by decide) ?_ (gf.of (o4.mono hYm) ftf)
         exact h.pd' o4 hYm eL4 (Bq h.nd (j:=5) rfl) (Bq h.nd (j:=6) rfl)
       . rw[show decide (rs.window+((v:Int)-s.first)>2147483647)=false from aq (by rw[ew];exact hw)]
         refine cY ⟨⟨_,rfl⟩,o23,?_,?_⟩
         . rw[<-m1];exact K4 o3 ⟨dx,_,u3,ew,e3⟩ p2 h.aik ha
         . rw[pq hz,dm,List.all_append,al];show (true&&(!decide (TOP<(grown v s.first z).window)&&true))=true
           rw[aq hw];rfl
     . rintro σ H2 ⟨⟨t,rfl⟩,o2,p2,al⟩;rw[hkl,gh,lO,eQ]at p2;rw[hkl,gh]at al;refine⟨o2 _ _ aB nas,?_⟩;have any:((s.streams.map (grown v s.first)).any λx=>decide (TOP<x.window))=false:=by
        rw[List.any_eq_false];intro y hy;have:=iT.mp al y hy;simpa using this
       have o4:gm (L::x.as) H (L2.bM H2 r.streams (.dK (qD x.as s.streams))):=λc u e hc=>by
        have hc1:c∉[L]:=λm=>hc (by rw[ak.mp m];exact .head _)
        have hc2:c∉x.as:=λm=>hc (.tail _ m);by_cases hcs:c=r.streams
        . subst hcs;have:u=.dK (qD x.as s.streams):=by have:=h.tZ.ob;rw[e]at this;exact cz this
          rw[aB,this]
        . rw[aM hcs];exact o2 c u (by rw[aM hcs];exact o1 c u e hc1) hc2
       have eL4:L2.bM H2 r.streams (.dK (qD x.as s.streams)) L=some (.ins A.dF dL (bI {r with fC:=(v:Int)})):=by
        rw[aM hLs];exact o2 _ _ (by rw[aM hLs];exact eL) nLas
       have hYm:∀y∈L::x.as,y∈foot L r x:=λy hy=>by
        rcases aJ.mp hy with rfl|hy
        . exact cC (j:=0) rfl
        . exact Rg hy
       have o5:gm [r.streams] H2 (L2.bM H2 r.streams (.dK (qD x.as s.streams))):=gm.bM (.head _);have e0:cfw s (v:Int)={s with first:=(v:Int),streams:=s.streams.map (grown v s.first)}:=by unfold cfw;rw[if_neg hv,any];rfl
       refine q.ok (r':={r with fC:=(v:Int)}) (x':=x) ?_ (gf.of (o4.mono hYm) λ_ hy=>hy);rw[e0];refine h.z6 o4 eL4 (vq p2 λa ha _ z=>z.iV o5 λm=>nas (by rw[<-ak.mp m];exact ha)) ?_ rfl h.start rfl rfl h.settled rfl rfl h.failed h.dead h.highest rfl h.window rfl h.said rfl rfl rfl rfl rfl rfl rfl rfl rfl
       show (s.streams.map (grown v s.first)).map (·.id)=_
       rw[gH];rfl
def qe(s:Ra)(k v:Nat):Ra:=
 if k=2 then (if 1<v then Rc28.die s 1 else s) else if k=4 then cfw s (v:Int) else if k=5 then (if v<16384\/16777215<v then Rc28.die s 1 else s) else s
def afo(s:Ra)(c:Nat):(Rc28.die s c).dead=true:=rfl
def Dm(f:Nat)(b:Rb)(h:s.dead=true):Rc28.settings f s b=s:=by
 cases f with
 |zero=>rfl
 |succ f=>unfold Rc28.settings;rw[if_pos (.inr h)]
def adD(f:Nat)(s:Ra):Rc28.settings f s []=s:=by
 cases f with
 |zero=>rfl
 |succ f=>unfold Rc28.settings;rw[if_pos (.inl rfl)]
def abd(f:Nat){b:Rb}(hd:s.dead=false)(hb:b≠[]):Rc28.settings (f+1) s b=Rc28.settings f (qe s (Rc28.num (b.take 2)) (Rc28.num ((b.drop 2).take 4))) (b.drop 6):=by
 rw[Rc28.settings,if_neg (by rw[hd];cases b with|nil=>exact absurd rfl hb|cons c r=>simp)]
 dsimp only;unfold qe;generalize Rc28.num (b.take 2)=k;generalize Rc28.num ((b.drop 2).take 4)=v;by_cases h2:k=2
 . rw[if_pos h2,if_pos h2];by_cases h1:1<v
   . rw[if_pos h1,if_pos h1,Dm _ _ rfl]
   . rw[if_neg h1,if_neg h1]
 . rw[if_neg h2,if_neg h2];by_cases h4:k=4
   . rw[if_pos h4,if_pos h4];unfold cfw;by_cases h1:TOP<(v:Int)
     . rw[if_pos h1,if_pos h1,Dm _ _ rfl]
     . rw[if_neg h1,if_neg h1];by_cases h3:((s.streams.map (grown v s.first)).any λx=>decide (TOP<x.window))=true
       . rw[if_pos h3];rw[Dm _ _ (afo s 3)];exact if_pos h3
       . rw[if_neg h3];exact if_neg h3
   . rw[if_neg h4,if_neg h4];by_cases h5:k=5
     . rw[if_pos h5,if_pos h5];by_cases h1:v<16384\/16777215<v
       . rw[if_pos h1,if_pos h1,Dm _ _ rfl]
       . rw[if_neg h1,if_neg h1]
     . rw[if_neg h5,if_neg h5]
inductive W7(A:Ad)(vs:List V)(H:Hp)(Q:VK)(_:XK):Prop
 |mk (L dL:Addr) (r:gM) (x:Lx) (s:Ra) (k v:Nat) (_:vs=[.ref L,.int (k:Int),.int (v:Int)]) (_:gb A H L dL r x s) (_:wJ A L dL (foot L r x) H (qe s k v) Q)
def Q4(F:j5 K "take_setting" "take_setting" Ai f fd)(T:Txt K mg A)(rR:jQ P w K mg base "change_first_window" dW 1 ["line","how_much"] (aiw A)):dR P w K mg base dW 2 f fd ["line","what","how_much"] (W7 A):=by
 refine F.mZ (N:=["line","what","how_much"]) (λ_ _ _ s H _ Q _ hr h _=>?_)
 . obtain⟨L,dL,r,x,s,k,v,rfl,h,q⟩:=h;refine⟨_,(ao (cV (Hw (bF pI (pv 1) (cR T.R8) (bO _)) (Bs (bF qF (pv 2) bx (bO _)))).pt (aG (aZ (cR T.gj))) bC)
    (ao (cV (bF pI (pv 1) (cR T.NB) (bO _)) (aG (aZ (aU rR hr.lw (aa (pv 0) (aa (pv 2) aK))))) bC)
    (ao (cV (Hw (bF pI (pv 1) (cR T.Nz) (bO _)) (Bs (rY (Df yR yR (cR T.G6) (pv 2) (cR T.Jp))))).pt (aG (aZ (cR T.gj))) bC)
    (aG (aZ (cR T.oA)))))),?_⟩
   have aaJ:qe s k v=s->Dn (tC (V.int 0)) {nx:=λ_ H'=>Q .non H',rt:=Q} [some (.ref L),some (.int (k:Int)),some (.int (v:Int))] H:=λe=>q.ok (r':=r) (x':=x) (by rw[e];exact h) gf.refl
   have Wm:qe s k v=Rc28.die s 1->Dn (tC (V.int 1)) {nx:=λ_ H'=>Q .non H',rt:=Q} [some (.ref L),some (.int (k:Int)),some (.int (v:Int))] H:=λe=>q.Wm (c:=1) e (by decide) h.pd (gf.of gm.refl qK);have ev:∀n:Nat,decide (V.int (k:Int)=V.int (n:Int))=decide (k=n):=λn=>by
    rw[bR];simp only[bK,V.int.injEq];omega
   refine⟨_,rfl,rfl,_,rfl,?_⟩;rw[show decide (V.int (k:Int)=V.int 2)=decide (k=2) from ev 2];by_cases h2:k=2
   . rw[az h2];refine cQ ⟨_,rfl,_,_,rfl,rfl,_,rfl,?_⟩;by_cases h1:1<v
     . rw[show decide ((v:Int)>1)=true from az (by omega)];exact cQ (Wm (by unfold qe;rw[if_pos h2,if_pos h1]))
     . rw[show decide ((v:Int)>1)=false from aq (by omega)];refine cY ⟨_,rfl,rfl,_,rfl,?_⟩;rw[show decide (V.int (k:Int)=V.int 4)=false by rw[show decide (V.int (k:Int)=V.int 4)=decide (k=4) from ev 4];exact aq (by omega)]
       refine cY ⟨_,rfl,rfl,_,rfl,?_⟩;rw[show decide (V.int (k:Int)=V.int 5)=false by rw[show decide (V.int (k:Int)=V.int 5)=decide (k=5) from ev 5];exact aq (by omega)]
       exact cY (cY (aaJ (by unfold qe;rw[if_pos h2,if_neg h1])))
   . rw[aq h2];refine cY (cY ⟨_,rfl,rfl,_,rfl,?_⟩);rw[show decide (V.int (k:Int)=V.int 4)=decide (k=4) from ev 4];by_cases h4:k=4
     . rw[az h4];refine cQ ⟨_,rfl,_,rfl,L,dL,r,x,s,v,rfl,h,?_⟩;have e:qe s k v=cfw s (v:Int):=by unfold qe;rw[if_neg h2,if_pos h4]
       rw[e]at q;exact q
     . rw[aq h4];refine cY ⟨_,rfl,rfl,_,rfl,?_⟩;rw[show decide (V.int (k:Int)=V.int 5)=decide (k=5) from ev 5];by_cases h5:k=5
       . rw[az h5];refine cQ ?_;refine vN (p1:=λi j=>decide (i<=j)) (p2:=λi j=>decide (i<=j)) (a:=16384) (b:=(v:Int)) (c:=16777215) (λQ q=>q) (λQ q=>⟨_,rfl,q⟩) (λQ q=>q) _ ⟨_,rfl,?_⟩;by_cases h1:v<16384\/16777215<v
         . rw[show (decide ((16384:Int)<=(v:Int))&&decide ((v:Int)<=16777215))=false by rw[Bool.eq_false_iff];simp;omega]
           exact cQ (Wm (by unfold qe;rw[if_neg h2,if_neg h4,if_pos h5,if_pos h1]))
         . rw[show (decide ((16384:Int)<=(v:Int))&&decide ((v:Int)<=16777215))=true by simp;omega]
           exact cY (aaJ (by unfold qe;rw[if_neg h2,if_neg h4,if_pos h5,if_neg h1]))
       . rw[aq h5];exact cY (cY (aaJ (by unfold qe;rw[if_neg h2,if_neg h4,if_neg h5])))
def rg6(hn:n<=100000):RgC 0 ((6*n:Nat):Int) 6 n:=by
 refine⟨by decide,by decide,?_,?_⟩
 . have e:Builtin.Range.rangeSize 0 ((6*n:Nat):Int) 6=(n:Int):=by
    unfold Builtin.Range.rangeSize;rw[if_pos (by decide)];split<;>omega
   unfold Builtin.Range.small;rw[e];generalize hz:((6*n:Nat):Int)=z;have h1:(n:Int)<=100000:=by omega
   have h2:0<=(n:Int):=by omega
   have h3:z<=600000:=by omega
   have h4:0<=z:=by omega
   clear hz e;generalize (n:Int)=m at h1 h2;have fl:∀k:Int,0<=k->k<=1000000->Builtin.Range.rangeFitsLong k=true:=λk a b=>by
    unfold Builtin.Range.rangeFitsLong;rw[bQ];exact⟨az (by omega),az (by omega)⟩
   rw[fl 0 (by omega) (by omega),fl z h4 (by omega),fl 6 (by omega) (by omega),fl m h2 (by omega),if_pos (by decide),fl _ (by omega) (by omega),Bool.or_true];rfl
 . unfold Builtin.Range.rangeSize;rw[if_pos (by decide)];split<;>omega
def gb.same(h:gb A H L dL r x s)(sm:cZ H H'):gb A H' L dL r x s:=by
 have o:gm [] H H':=cZ.iV sm;have n:∀a:Addr,a∉([]:List Addr):=λa m=>nomatch m;exact⟨sm _ _ h.ob,h.start,sm _ _ h.part,h.settled,h.failed,h.dead,h.highest,h.window,h.first,h.said,sm _ _ h.out,h.Gj.iV o λa _=>n a,h.tZ.iV o (n _) λa _=>n a,h.yd.iV o (λy hy=>nomatch hy) (n _) (n _),h.Dr,h.evs.iV (cZ.iV sm) o (n _),h.wt,h.now.iV (cZ.iV sm),h.nd,h.wL.iV o λy hy=>nomatch hy⟩
def gf.same(sm:cZ H H1)(a:gf X H1 X' H'):gf X H X' H':=
 ⟨λc o e n=>a.1 c o (sm c o e) n,λy hy=>by
  rcases a.2 y hy with z|z
  . exact .inl z
  . cases e:H y with
    |none=>exact .inr rfl
    |some o=>rw[sm y o e]at z;cases z⟩
inductive Uv(A:Ad)(vs:List V)(H:Hp)(Q:VK)(_:XK):Prop
 |mk (L dL:Addr) (r:gM) (x:Lx) (s:Ra) (bd:Addr) (b:Rb) (_:vs=[.ref L,.ref bd]) (_:gb A H L dL r x s) (_:H bd=some (.cM (bv b))) (_:bd∉foot L r x) (_:b.length%6=0) (_:b.length<=100000) (_:wJ A L dL (foot L r x) H (Rc28.settings (b.length+1) s b) Q)
def Ox(F:j5 K "take_settings" "take_settings" yL f fd)(T:Txt K mg A)(du:jQ P w K mg base "number_of_bytes" dW 1 ["row"] (Us K))(zH:jQ P w K mg base "take_setting" dW 2 ["line","what","how_much"] (W7 A)):dR P w K mg base dW 3 f fd ["line","body"] (Uv A):=by
 refine F.mZ (N:=["line","body","place","what","how_much","fault"]) (λ_ _ _ s H _ _ _ hr h nd0=>?_)
 . obtain⟨L,dL,r,x,s,bd,b,rfl,h,hb,hbX,h6,jB,q⟩:=h;refine⟨_,(ao (wj b8 rfl (WX (by rfl) T.Ri (aa bx (aa (bV bc (by rfl) T.gO aO (aa (pv 1) aK)) (aa (cR T.yp) aK)))) (jY (i:=2) nd0 rfl (Or.inl rfl)) (ao (cB (i:=3) nd0 rfl (Or.inl rfl) (aU du hr.lw (aa (jz lG (pv 1) (iu (pv 2)) (iu (iW oG (pv 2) bx))) aK)))
    (ao (cB (i:=4) nd0 rfl (Or.inl rfl) (aU du hr.lw (aa (jz lG (pv 1) (iu (iW oG (pv 2) bx)) (iu (iW oG (pv 2) (cR T.yp)))) aK)))
    (ao (cB (i:=5) nd0 rfl (Or.inl rfl) (aU zH hr.lw (aa (pv 0) (aa (pv 3) (aa (pv 4) aK)))))
    (aG (cV (bF uA (pv 5) (cR T.oA) (bO _)) (aG (aZ (pv 5))) bC))))))
    (aG (aZ (cR T.oA)))),?_⟩
   obtain⟨n,hn⟩:∃n,b.length=6*n:=⟨b.length / 6,by omega⟩;refine⟨_,rfl,_,_,rfl,.inl (fH.of hb),0,_,6,n,rfl,by rw[cA,hn];exact rg6 (by omega),?_⟩
   refine abZ (λi σ H2=>i<=n/\∃(v2 v3 v4 v5:Option V)(s2:Ra)(r2:gM)(x2:Lx),σ=[some (.ref L),some (.ref bd),v2,v3,v4,v5]/\gb A H2 L dL r2 x2 s2/\gf (foot L r x) H (foot L r2 x2) H2/\Rc28.settings (b.length+1) s b=Rc28.settings (b.length+1-i) s2 (b.drop (6*i))) ⟨bW _,none,none,none,none,s,r,x,rfl,h,gf.refl,rfl⟩ ?_ ?_
   . rintro i σ H2 hi ⟨_,v2,v3,v4,v5,s2,r2,x2,rfl,h2,st2,e2⟩;obtain⟨hb2,hbX2⟩:=st2.out hb hbX;have c1:sV (bv b) (some (0+(i:Int)*6)) (some (0+(i:Int)*6+2))=bv ((b.drop (6*i)).take 2):=by
      rw[show (0:Int)+(i:Int)*6=((6*i:Nat):Int) by omega,show (((6*i:Nat):Int)+2)=((6*i:Nat):Int)+((2:Nat):Int) from rfl,NT (by rw[cA];omega),pY,uq]
     have c2:sV (bv b) (some (0+(i:Int)*6+2)) (some (0+(i:Int)*6+6))=bv (((b.drop (6*i)).drop 2).take 4):=by
      rw[show (0:Int)+(i:Int)*6+2=((6*i+2:Nat):Int) by omega,show (0:Int)+(i:Int)*6+6=((6*i+2:Nat):Int)+((4:Nat):Int) by omega,NT (by rw[cA];omega),gw,pY,uq]
     refine⟨_,rfl,_,rfl,_,rfl,_,rfl,_,_,rfl,rfl,_,rfl,_,_,rfl,fH.of hb2,λp1 hp1=>?_⟩;rw[c1];refine⟨p1,_,rfl,fH.of aB,by rw[aY];omega,?_⟩
     have sm1:cZ H2 (L2.bM H2 p1 (.cM (bv ((b.drop (6*i)).take 2)))):=λc o e=>by rw[aM (aD e hp1)];exact e
     generalize L2.bM H2 p1 (.cM (bv ((b.drop (6*i)).take 2)))=H3 at sm1;refine⟨_,rfl,_,rfl,_,_,rfl,rfl,_,rfl,_,rfl,_,_,rfl,rfl,_,rfl,_,_,rfl,fH.of (sm1 _ _ hb2),λp2 hp2=>?_⟩;rw[c2];refine⟨p2,_,rfl,fH.of aB,by rw[aY];omega,?_⟩
     have sm2:cZ H3 (L2.bM H3 p2 (.cM (bv (((b.drop (6*i)).drop 2).take 4)))):=λc o e=>by rw[aM (aD e hp2)];exact e
     generalize L2.bM H3 p2 (.cM (bv (((b.drop (6*i)).drop 2).take 4)))=H4 at sm2;have sm:cZ H2 H4:=sm1.trans sm2;have h4:gb A H4 L dL r2 x2 s2:=h2.same sm;have hne:b.drop (6*i)≠[]:=λe=>by have:=qz.mp e;omega
     have hstep:=abd (b.length-i) h2.dead hne;rw[show b.length-i+1=b.length+1-i by omega,<-e2]at hstep;refine⟨_,rfl,_,rfl,_,rfl,L,dL,r2,x2,s2,_,_,rfl,h4,?_,?_⟩
     . intro r5 x5 H5 h5 st5;have st:=st2.trans (gf.same sm st5);refine⟨_,rfl,rfl,_,rfl,?_⟩;refine cY ⟨by omega,_,_,_,_,_,_,_,rfl,h5,st,?_⟩;rw[hstep,show b.length+1-(i+1)=b.length-i by omega,show b.drop (6*(i+1))=(b.drop (6*i)).drop 6 by rw[gw];congr 1]
     . intro c s5 r5 H5 e5 hc h5 st5;have st:=st2.trans (gf.same sm st5);refine⟨_,rfl,rfl,_,rfl,?_⟩;rw[show (!decide (V.int (c:Int)=V.int 0))=true by simp only[V.int.injEq,mX,gr];omega]
       refine cQ ⟨_,rfl,?_⟩;refine q.Wm (c:=c) (s':=s5) ?_ hc h5 st;rw[hstep,e5,Dm _ _ rfl]
   . rintro σ H2 ⟨_,v2,v3,v4,v5,s2,r2,x2,rfl,h2,st2,e2⟩;rw[show b.drop (6*n)=[] from qz.mpr (by omega),adD]at e2;exact q.ok (by rw[e2];exact h2) st2
structure FrB(A:Ad)(X:List Addr)(H:Hp)(fr:Addr)(k f id:Nat)(bd:Addr)(b:Rb):Prop where
 ob:∃dx,H fr=some (.ins A.sZ dx (Bm k f id bd))
 lb:H bd=some (.cM (bv b))
 nf:fr∉X
 nb:bd∉X
 hf:f<256
 hl:b.length<=30000
def FrB.Rz{fr:Addr}{k f id:Nat}{bd:Addr}{b:Rb}(x:FrB A X H fr k f id bd b)(s:gf X H X' H'):FrB A X' H' fr k f id bd b:=by
 obtain⟨dx,h⟩:=x.ob;obtain⟨h1,n1⟩:=s.out h x.nf;obtain⟨h2,n2⟩:=s.out x.lb x.nb;exact⟨⟨dx,h1⟩,h2,n1,n2,x.hf,x.hl⟩
structure Rm(s:Ra):Prop where
 out:s.out.length+70000<=sizeLine
 evs:s.events.length+10<=sizeLine
inductive spH(A:Ad)(on:Ra->Nat->Nat->Rb->Ra)(vs:List V)(H:Hp)(Q:VK)(_:XK):Prop
 |mk (L dL:Addr) (r:gM) (x:Lx) (s:Ra) (fr:Addr) (k f id:Nat) (bd:Addr) (b:Rb) (_:vs=[.ref L,.ref fr]) (_:gb A H L dL r x s) (_:Rm s) (_:FrB A (foot L r x) H fr k f id bd b) (_:wJ A L dL (foot L r x) H (on s f id b) Q)
def Js(n:Nat):decide (V.int (n:Int)=V.int 0)=decide (n=0):=by rw[bR];simp only[bK,V.int.injEq];omega
def Jt(n m:Nat):decide (V.int (n:Int)=V.int (m:Int))=decide (n=m):=by rw[bR];simp only[bK,V.int.injEq];omega
section
variable{t:Ra}
def wJ.die(q:wJ A L dL (foot L r x) H t Q)(h:gb A H L dL r x s){c:Nat}(e:t=Rc28.die s c)(hc:0<c):Q (.int (c:Int)) H:=q.Wm e hc h.pd (gf.of gm.refl qK)
def wJ.aaJ(q:wJ A L dL (foot L r x) H t Q)(h:gb A H L dL r x s)(e:t=s):Q (.int 0) H:=q.ok (by rw[e];exact h) gf.refl
def yc:∀y∈[r.dU],y∈foot L r x:=λy hy=>by rw[ak.mp hy];exact cC (j:=5) rfl
end
def KZ(s:Ra)(f id:Nat)(b:Rb):Ra:=if id≠0 then Rc28.die s 1 else if b.length≠8 then Rc28.die s 6 else if f%2=1 then s else Rc28.send s 6 1 0 b
def OD(s:Ra)(f id:Nat)(b:Rb):Ra:=if id≠0 then Rc28.die s 1 else if b.length<8 then Rc28.die s 6 else Rc28.tell s (.away (Rc28.num ((b.drop 4).take 4)))
def Tu(F:j5 K "never_right" "never_right" Cj f fd)(T:Txt K mg A):dR P w K mg base dW 1 f fd ["line","frame"] (spH A λs _ _ _=>Rc28.die s 1):=by
 refine F.mZ (N:=["line","frame"]) (λ_ _ _ s _ _ _ _ _ h _=>?_)
 . obtain⟨L,dL,r,x,s,fr,k,f,id,bd,b,rfl,h,rm,B,q⟩:=h;exact⟨_,(aG (aZ (cR T.gj))),q.die h rfl (by decide)⟩
def YW(F:j5 K "ping_came" "ping_came" Ie f fd)(T:Txt K mg A)(dw:rC P w K mg base A.sZ "has_set" dW 1 ["self","bit"] (uV A))(eY:jQ P w K mg base "send_frame" dW 2 ["line","kind","flags","stream","body"] (xr A)):dR P w K mg base dW 3 f fd ["line","frame"] (spH A KZ):=by
 refine F.mZ (N:=["line","frame"]) (λ_ _ _ s _ _ _ _ hr h _=>?_)
 . obtain⟨L,dL,r,x,s,fr,k,f,id,bd,b,rfl,h,rm,B,q⟩:=h;refine⟨_,(ao (cV (bF uA (aaO 1 rfl) bx (bO _)) (aG (aZ (cR T.gj))) bC)
    (ao (cV (bF uA (bV bc (by rfl) T.gO aO (aa (aaO 1 rfl) aK)) bx (bO _)) (aG (aZ (cR T.lB))) bC)
    (ao (cV (rY (iB (nJ T.cO (pv 1) dw hr.lw lU (aa (cR T.zM) aK)))) (aG (dz (aU eY hr.lw (aa (pv 0) (aa (cR T.Yb) (aa (cR T.zM) (aa bx (aa (aaO 1 rfl) aK)))))))) bC)
    (aG (aZ (cR T.oA)))))),?_⟩
   obtain⟨dx,hfr⟩:=B.ob;refine⟨rfl,hfr,T.cO,T.cP,cT,rfl,_,rfl,?_⟩;rw[Js];by_cases hi:id=0
   . rw[az hi];refine cY ⟨rfl,hfr,T.cO,T.eZ,fD,_,_,rfl,.inl (fH.of B.lb),rfl,_,rfl,?_⟩;rw[cA,show decide (V.int ((b.length:Nat):Int)=V.int 8)=decide (b.length=8) from Jt _ 8];by_cases h8:b.length=8
     . rw[az h8];refine cY ⟨_,rfl,_,_,_,rfl,hfr,kh,fr,k,f,id,1,bd,rfl,⟨dx,hfr⟩,B.hf,.inl rfl,_,rfl,?_⟩;rw[ue];by_cases h1:f%2=1
       . rw[az h1];exact cY (q.aaJ h (by unfold KZ;rw[if_neg (by omega),if_neg (by omega),if_pos h1]))
       . rw[aq h1];refine cQ ⟨_,rfl,rfl,hfr,T.cO,T.eZ,fD,L,dL,r,s.out,6,1,0,bd,b,rfl,h.ob,h.out,B.lb,?_,by decide,by decide,by have:=rm.out;have:=B.hl;omega,λH' e o=>?_⟩
         . rintro rfl;exact B.nb (cC (j:=5) rfl)
         . exact q.ok (r':=r) (x':=x) (by unfold KZ;rw[if_neg (by omega),if_neg (by omega),if_neg h1];exact h.acC o e) (gf.of (o.mono yc) λ_ hy=>hy)
     . rw[aq h8];exact cQ (q.die (c:=6) h (by unfold KZ;rw[if_neg (by omega),if_pos h8]) (by decide))
   . rw[aq hi];exact cQ (q.die (c:=1) h (by unfold KZ;rw[if_pos hi]) (by decide))
def Yy(F:j5 K "away_came" "away_came" HB f fd)(T:Txt K mg A)(du:jQ P w K mg base "number_of_bytes" dW 1 ["row"] (Us K))(ji:DQ P w K mg base "Event" A.Event 1 ["self","kind","stream","no_more","code"] (tW A))(vh:jQ P w K mg base "tell" dW 4 ["line","event"] (Lh A)):dR P w K mg base dW 5 f fd ["line","frame"] (spH A OD):=by
 refine F.mZ (N:=["line","frame"]) (λ_ _ _ s H _ _ _ hr h _=>?_)
 . obtain⟨L,dL,r,x,s,fr,k,f,id,bd,b,rfl,h,rm,B,q⟩:=h;refine⟨_,(ao (cV (bF uA (aaO 1 rfl) bx (bO _)) (aG (aZ (cR T.gj))) bC)
    (ao (cV (bF yS (bV bc (by rfl) T.gO aO (aa (aaO 1 rfl) aK)) bx (bO _)) (aG (aZ (cR T.lB))) bC)
    (ao (dz (aU vh hr.lw (aa (pv 0) (aa (qt ji hr.lw (aa (cR T.aax) (aa bx (aa qG (aa (aU du hr.lw (aa (jz lG (aaO 1 rfl) (iu bx) (iu bx)) aK)) aK))))) aK))))
    (aG (aZ (cR T.oA)))))),?_⟩
   obtain⟨dx,hfr⟩:=B.ob;refine⟨rfl,hfr,T.cO,T.cP,cT,rfl,_,rfl,?_⟩;rw[Js];by_cases hi:id=0
   . rw[az hi];refine cY ⟨rfl,hfr,T.cO,T.eZ,fD,_,_,rfl,.inl (fH.of B.lb),_,_,rfl,rfl,_,rfl,?_⟩;rw[cA];by_cases h8:b.length<8
     . rw[show decide (((b.length:Nat):Int)<8)=true from az (by omega)];exact cQ (q.die (c:=6) h (by unfold OD;rw[if_neg (by omega),if_pos h8]) (by decide))
     . rw[show decide (((b.length:Nat):Int)<8)=false from aq (by omega)];refine cY ⟨_,rfl,rfl,hfr,T.cO,T.eZ,fD,4,rfl,8,rfl,_,_,rfl,fH.of B.lb,λp hp=>?_⟩;have c1:sV (bv b) (some 4) (some 8)=bv ((b.drop 4).take 4):=by
        rw[show (some (4:Int))=some (((4:Nat):Int)) from rfl,show (some (8:Int))=some (((4:Nat):Int)+((4:Nat):Int)) from rfl,NT (by rw[cA];omega),pY,uq]
       rw[c1];refine⟨p,_,rfl,fH.of aB,by rw[aY];omega,?_⟩
       have sm1:cZ H (L2.bM H p (.cM (bv ((b.drop 4).take 4)))):=λc o e=>by rw[aM (aD e hp)];exact e
       generalize L2.bM H p (.cM (bv ((b.drop 4).take 4)))=H1 at sm1;dsimp only[fG,tC,oO];refine zU λa da hh bb H2 ha hha hba n1 n2 n3 e1 e2 e3 sm2=>?_;have sm:=sm1.trans sm2;have h2:=h.same sm;have h1:=h.same sm1;refine⟨L,dL,r,x,s,a,.away (Rc28.num ((b.drop 4).take 4)),rfl,h2,Kf h1.wL ha hha hba e1 e2 e3 ⟨rfl,rfl,rfl,rfl⟩ rfl rfl,by show 0<=100000;decide,by have:=rm.evs;omega,λr' H3 h3 hf o3=>?_⟩
       refine q.ok (r':=r') (x':=x) ?_ (gf.same sm (gf.of o3 λy hy=>by rw[hf]at hy;exact hy))
       unfold OD;rw[if_neg (by omega),if_neg h8];exact h3
   . rw[aq hi];exact cQ (q.die (c:=1) h (by unfold OD;rw[if_pos hi]) (by decide))
theorem Bu{R:Addr->Rt->Prop}{as:List Addr}(p:Paired R as l)(id:Nat):
 (l.find? (λx=>x.id==id)=none/\Az (qD as l) (.inl (id:Int))=none)\/∃(i:Nat)(x:Rt)(a:Addr),l.find? (λx=>x.id==id)=some x/\Az (qD as l) (.inl (id:Int))=some (.ref a)/\as[i]? = some a/\l[i]? = some x/\R a x/\x.id=id:=by
 induction p with
 |nil=>exact .inl ⟨rfl,rfl⟩
 |@cons a x as l r t ih=>
  by_cases hx:x.id=id
  . refine .inr ⟨0,x,a,?_,?_,rfl,rfl,r,hx⟩
    . rw[gG,show (x.id==id)=true by rw[hx];simp]
    . rw[o8,Iu (by rw[hx])]
  . have e:(x.id==id)=false:=by simp[hx]
    rw[gG,e,o8,Ds (afN hx)];rcases ih with⟨h1,h2⟩|⟨i,y,b,h1,h2,h3,h4,h5,h6⟩
    . exact .inl ⟨h1,h2⟩
    . exact .inr ⟨i+1,y,b,h1,h2,by simpa using h3,by simpa using h4,h5,h6⟩
theorem Sq{g:Rt->Rt}:∀{l:List Rt}{i:Nat}{x:Rt}{id:Nat},(l.map (·.id)).Nodup->l[i]? = some x->x.id=id->(l.map λy=>if y.id=id then g y else y)=l.set i (g x)
 |[],i,x,id,_,h,_=>by simp at h
 |y::l,0,x,id,nd,h,e=>by
  simp only[List.getElem?_cons_zero,lg]at h;subst h;simp only[bG,dZ]at nd;rw[bG,if_pos e,List.set_cons_zero];congr 1;rw[nZ (g:=λy=>y)]
  . exact List.map_id' _
  . intro z hz;rw[if_neg];intro e';exact nd.1 (fL.mpr ⟨z,hz,by rw[e',e]⟩)
 |y::l,i+1,x,id,nd,h,e=>by
  simp only[iY]at h;simp only[bG,dZ]at nd;rw[bG,List.set_cons_succ,Sq nd.2 h e,if_neg];intro e';exact nd.1 (fL.mpr ⟨x,cD h,by rw[e,e']⟩)
def ahY{x:Rt}(h:l[i]? = some x)(e:y.id=x.id):(l.set i y).map (·.id)=l.map (·.id):=by
 rw[List.map_set,e];refine List.ext_getElem? λj=>?_;rw[List.getElem?_set];split
 . rename_i hij;subst hij;rw[bA,h,aC];rw[if_pos (bh.mp h).1];rfl
 . rfl
def gb.IV(h:gb A H L dL r x s){id:Nat}{g:Rt->Rt}(o:gm [a] H H')(ha:x.as[i]? = some a)(hy:s.streams[i]? = some y)(Jr:y.id=id)(hg:(g y).id=y.id)(hs:Qo A H' a (g y)):gb A H' L dL r x (Rc28.change s id g)/\gm (foot L r x) H H':=by
 have ham:a∈x.as:=cD ha;have o':gm (L::x.as) H H':=o.mono λz hz=>by rw[ak.mp hz];exact .tail _ ham
 have hLa:L∉[a]:=λm=>Te h.nd (j:=0) rfl (by decide) (by rw[ak.mp m];exact ham)
 have e:(Rc28.change s id g).streams=s.streams.set i (g y):=Sq h.tZ.Hg hy Jr;refine⟨h.z6 o' (o _ _ h.ob hLa) (by rw[e];exact K4 o hs h.tZ.st h.aik ha) (by rw[e];exact ahY hy hg) rfl h.start rfl rfl h.settled rfl rfl h.failed h.dead h.highest rfl h.window h.first h.said rfl rfl rfl rfl rfl rfl rfl rfl rfl,o.mono λz hz=>by rw[ak.mp hz];exact Rg ham⟩
def gb.ale(h:gb A H L dL r x s){v:Int}(o:gm [L] H H')(e:H' L=some (.ins A.dF dL (bI {r with window:=v}))):gb A H' L dL {r with window:=v} x {s with window:=v}:=
 h.z6 (o.mono λz hz=>by rw[ak.mp hz];exact .head _) e (h.tZ.iV o (rH h.nd 2 0 rfl rfl) (h.Gf (j:=0) rfl).2).st rfl rfl h.start rfl rfl h.settled rfl rfl h.failed h.dead h.highest rfl rfl h.first h.said rfl rfl rfl rfl rfl rfl rfl rfl rfl
def agD{k v:Nat}(h:(qe s k v).dead=false):(qe s k v).out=s.out:=by
 have hdie:∀c,(Rc28.die s c).dead=false->False:=λc z=>by cases z
 unfold qe cfw at h ⊢;split
 . split
   . rename_i h1 h2;rw[if_pos h1,if_pos h2]at h;exact(hdie _ h).elim
   . rfl
 . split
   . rename_i h1 h2;rw[if_neg h1,if_pos h2]at h;split
     . rename_i h3;rw[if_pos h3]at h;exact(hdie _ h).elim
     . rename_i h3;rw[if_neg h3]at h;split
       . rename_i h4;rw[if_pos h4]at h;exact(hdie _ h).elim
       . rfl
   . split
     . rename_i h1 h2 h3;rw[if_neg h1,if_neg h2,if_pos h3]at h;split
       . rename_i h4;rw[if_pos h4]at h;exact(hdie _ h).elim
       . rfl
     . rfl
theorem adE:∀(f:Nat){s:Ra}(b:Rb),s.dead=false->(Rc28.settings f s b).dead=false->(Rc28.settings f s b).out=s.out
 |0,s,b,_,_=>rfl
 |f+1,s,[],_,_=>by rw[adD]
 |f+1,s,c::b,hd,h=>by
  rw[abd f hd (by simp)]at h ⊢
  cases hs:(qe s (Rc28.num ((c::b).take 2)) (Rc28.num (((c::b).drop 2).take 4))).dead with
  |true=>rw[Dm _ _ hs]at h;rw[hs]at h;cases h
  |false=>rw[adE f _ hs h,agD hs]
inductive agv(K:Fg)(vs:List V)(H:Hp)(Q:VK)(_:XK):Prop
 |mk (a C dx:Addr) (fs:List (Str×V)) (wd:Int) (n:Nat) (_:vs=[.ref a,.int (n:Int)]) (_:H a=some (.ins C dx fs)) (_:RJ K C) (_:gB K C "window") (_:fs.lookup ("window":Str)=some (V.int wd)) (_:fs.length<1000) (_:(n=0->Q (.int 1) H)) (_:(n≠0->TOP<wd+(n:Int)->Q (.int 3) H)) (_:(n≠0->¬TOP<wd+(n:Int)->Q (.int 0) (L2.bM H a (.ins C dx (kY "window" (.int (wd+(n:Int))) fs)))))
def Tq(F:j5 K "grow_window" "grow_window" Cg f fd)(T:Txt K mg A):dR P w K mg base dW 1 f fd ["owner","growth"] (agv K):=by
 refine F.mZ (N:=["owner","growth"]) (λ_ _ _ _ _ _ _ _ _ h _=>?_)
 . obtain⟨a,C,dx,fs,wd,n,rfl,ha,hC,hN,hl,hz,q1,q2,q3⟩:=h;refine⟨_,(ao (cV (bF pI (pv 1) bx (bO _)) (aG (aZ (cR T.gj))) bC)
    (ao (cV (bF qF (iW oG (aaO 0 rfl) (pv 1)) (cR T.BK) (bO _)) (aG (aZ (cR T.vo))) bC)
    (ao (aa8 0 (pv 1) Hh)
    (aG (aZ (cR T.oA)))))),?_⟩
   refine⟨_,rfl,rfl,_,rfl,?_⟩;rw[Js];by_cases hn:n=0
   . rw[az hn];exact cQ (q1 hn)
   . rw[aq hn];refine cY ⟨rfl,ha,hC,hN,hl,_,rfl,_,_,rfl,rfl,_,_,rfl,rfl,_,rfl,?_⟩;by_cases ht:TOP<wd+(n:Int)
     . rw[show decide (wd+(n:Int)>2147483647)=true from az ht];exact cQ (q2 hn ht)
     . rw[show decide (wd+(n:Int)>2147483647)=false from aq ht];refine cY ⟨rfl,ha,hC,hN,hl,_,rfl,_,_,rfl,rfl,_,_,ha,hz,?_⟩;exact q3 hn ht
def Ow(F:j5 K "settings_came" "settings_came" yK f fd)(T:Txt K mg A)(dw:rC P w K mg base A.sZ "has_set" dW 1 ["self","bit"] (uV A))(yj:jQ P w K mg base "take_settings" dW 3 ["line","body"] (Uv A))(eY:jQ P w K mg base "send_frame" dW 2 ["line","kind","flags","stream","body"] (xr A)):dR P w K mg base dW 4 f fd ["line","frame"] (spH A λs f id b=>Rc28.onSettings s f id b):=by
 refine F.mZ (N:=["line","frame","fault"]) (λ_ _ _ s _ _ _ _ hr h nd0=>?_)
 . obtain⟨L,dL,r,x,s,fr,k,f,id,bd,b,rfl,h,rm,B,q⟩:=h;refine⟨_,(ao (cV (bF uA (aaO 1 rfl) bx (bO _)) (aG (aZ (cR T.gj))) bC)
    (ao (cV (iB (nJ T.cO (pv 1) dw hr.lw lU (aa (cR T.zM) aK))) (aG (aZ (Dc (bF pI (bV bc (by rfl) T.gO aO (aa (aaO 1 rfl) aK)) bx (bO _)) (cR T.oA) (cR T.lB)))) bC)
    (ao (cV (bF uA (iW TQ (bV bc (by rfl) T.gO aO (aa (aaO 1 rfl) aK)) (cR T.yp)) bx (bO _)) (aG (aZ (cR T.lB))) bC)
    (ao (cB (i:=2) nd0 rfl (Or.inl rfl) (aU yj hr.lw (aa (pv 0) (aa (aaO 1 rfl) aK))))
    (ao (cV (bF pI (pv 2) (cR T.oA) (bO _)) (aG (dz (aU eY hr.lw (aa (pv 0) (aa (cR T.wR) (aa (cR T.zM) (aa bx (aa (jT aK) aK)))))))) bC)
    (aG (aZ (pv 2)))))))),?_⟩
   obtain⟨dx,hfr⟩:=B.ob;refine⟨rfl,hfr,T.cO,T.cP,cT,rfl,_,rfl,?_⟩;rw[Js];by_cases hi:id=0
   . rw[az hi];refine cY ⟨_,rfl,_,_,_,rfl,hfr,kh,fr,k,f,id,1,bd,rfl,⟨dx,hfr⟩,B.hf,.inl rfl,_,rfl,?_⟩;rw[ue];by_cases h1:f%2=1
     . rw[az h1];refine cQ ⟨rfl,hfr,T.cO,T.eZ,fD,_,_,rfl,.inl (fH.of B.lb),rfl,_,rfl,?_⟩;rw[cA,Js]
       cases b with
       |nil=>exact cQ (q.aaJ h (by unfold Rc28.onSettings;rw[if_neg (by omega),if_pos h1];rfl))
       |cons c b'=>
        rw[show decide ((c::b').length=0)=false from rfl];exact cY (q.die (c:=6) h (by unfold Rc28.onSettings;rw[if_neg (by omega),if_pos h1];rfl) (by decide))
     . rw[aq h1];refine cY ⟨rfl,hfr,T.cO,T.eZ,fD,_,_,rfl,.inl (fH.of B.lb),_,_,rfl,rfl,(show (0:Int)<6 by decide),rfl,_,rfl,?_⟩;rw[cA,show decide (V.int (((b.length:Nat):Int)%6)=V.int 0)=decide (b.length%6=0) by rw[bR];simp only[bK,V.int.injEq];omega]
       by_cases h6:b.length%6=0
       . rw[az h6];have e0:Rc28.onSettings s f id b=if (Rc28.settings (b.length+1) s b).dead=true then Rc28.settings (b.length+1) s b else Rc28.send (Rc28.settings (b.length+1) s b) 4 1 0 []:=by
          unfold Rc28.onSettings;rw[if_neg (by omega),if_neg h1,if_neg (by omega)]
         have hout:(Rc28.settings (b.length+1) s b).dead=false->(Rc28.settings (b.length+1) s b).out=s.out:=adE _ _ h.dead;rw[e0]at q;generalize ht:Rc28.settings (b.length+1) s b=t at q hout;refine cY ⟨_,rfl,rfl,hfr,T.cO,T.eZ,fD,L,dL,r,x,s,bd,b,rfl,h,B.lb,B.nb,h6,by have:=B.hl;omega,?_⟩
         rw[ht];refine⟨λr2 x2 H2 h2 st2=>?_,λc s2 r2 H2 e2 hc h2 st2=>?_⟩
         . rw[if_neg (by rw[h2.dead];simp)]at q
           refine⟨_,rfl,rfl,_,rfl,cQ ?_⟩;refine⟨_,rfl,by decide,λp hp=>⟨L,dL,r2,t.out,4,1,0,p,[],rfl,?_,?_,aB,?_,by decide,by decide,by rw[hout h2.dead];have:=rm.out;show _+0+100<=_;omega,λH3 e3 o3=>?_⟩⟩
           . rw[aM (aD h2.ob hp)];exact h2.ob
           . rw[aM (aD h2.out hp)];exact h2.out
           . exact Ne.symm (aD h2.out hp)
           . have o3':gm [r2.dU] H2 H3:=(gm.new hp).trans o3;exact⟨_,rfl,q.ok (h2.acC o3' e3) (st2.trans (gf.of (o3'.mono yc) λ_ hy=>hy))⟩
         . have hd:t.dead=true:=by rw[e2];rfl
           rw[if_pos hd]at q;refine⟨_,rfl,rfl,_,rfl,?_⟩;rw[Js,aq (by omega)];exact cY ⟨_,rfl,q.Wm e2 hc h2 st2⟩
       . rw[aq h6];exact cQ (q.die (c:=6) h (by unfold Rc28.onSettings;rw[if_neg (by omega),if_neg h1,if_pos h6]) (by decide))
   . rw[aq hi];exact cQ (q.die (c:=1) h (by unfold Rc28.onSettings;rw[if_pos hi]) (by decide))
def Ov(F:j5 K "priority_came" "priority_came" yJ f fd)(T:Txt K mg A)(dC:jQ P w K mg base "fail_stream" dW 3 ["line","number","code"] (yN A))(dM:jQ P w K mg base "number_without_top_bit" dW 2 ["row"] (abj K)):dR P w K mg base dW 4 f fd ["line","frame"] (spH A λs _ id b=>Rc28.onPriority s id b):=by
 refine F.mZ (N:=["line","frame"]) (λ_ _ _ s H _ _ _ hr h _=>?_)
 . obtain⟨L,dL,r,x,s,fr,k,f,id,bd,b,rfl,h,rm,B,q⟩:=h;refine⟨_,(ao (cV (bF pI (aaO 1 rfl) bx (bO _)) (aG (aZ (cR T.gj))) bC)
    (ao (cV (bF uA (bV bc (by rfl) T.gO aO (aa (aaO 1 rfl) aK)) bx (bO _)) (aG (dz (aU dC hr.lw (aa (pv 0) (aa (aaO 1 rfl) (aa (cR T.lB) aK)))))) (aG (cV (bF pI (aU dM hr.lw (aa (jz lG (aaO 1 rfl) uW (iu bx)) aK)) (aaO 1 rfl) (bO _)) (aG (dz (aU dC hr.lw (aa (pv 0) (aa (aaO 1 rfl) (aa (cR T.gj) aK)))))) bC)))
    (aG (aZ (cR T.oA))))),?_⟩
   obtain⟨dx,hfr⟩:=B.ob;refine⟨rfl,hfr,T.cO,T.cP,cT,rfl,_,rfl,?_⟩;rw[Js];by_cases hi:id=0
   . rw[az hi];exact cQ (q.die (c:=1) h (by unfold Rc28.onPriority;rw[if_pos hi]) (by decide))
   . rw[aq hi];refine cY ⟨rfl,hfr,T.cO,T.eZ,fD,_,_,rfl,.inl (fH.of B.lb),rfl,_,rfl,?_⟩;rw[cA,show decide (V.int ((b.length:Nat):Int)=V.int 5)=decide (b.length=5) from Jt _ 5];by_cases h5:b.length=5
     . rw[az h5];refine cY ⟨rfl,hfr,T.cO,T.eZ,fD,4,rfl,_,_,rfl,fH.of B.lb,λp hp=>?_⟩;have c1:sV (bv b) none (some 4)=bv (b.take 4):=by
        rw[show (some (4:Int))=some (((4:Nat):Int)) from rfl,NZ (by rw[cA];omega),pY]
       rw[c1];refine⟨p,_,rfl,fH.of aB,by rw[aY];omega,?_⟩
       have sm1:cZ H (L2.bM H p (.cM (bv (b.take 4)))):=λc o e=>by rw[aM (aD e hp)];exact e
       generalize L2.bM H p (.cM (bv (b.take 4)))=H1 at sm1;have h1:=h.same sm1;refine⟨rfl,sm1 _ _ hfr,T.cO,T.cP,cT,rfl,_,rfl,?_⟩;rw[Jt];by_cases he:Rc28.num (b.take 4)%2^31=id
       . rw[az he];refine cQ ⟨_,rfl,rfl,sm1 _ _ hfr,T.cO,T.cP,cT,L,dL,r,x,s,id,1,rfl,h1,by have:=rm.out;omega,λx' H' h' hX o'=>?_⟩
         exact q.ok (r':=r) (x':=x') (by unfold Rc28.onPriority;rw[if_neg hi,if_neg (by omega),if_pos he];exact h') (gf.same sm1 (gf.of o' hX))
       . rw[aq he];exact cY (q.ok (r':=r) (x':=x) (by unfold Rc28.onPriority;rw[if_neg hi,if_neg (by omega),if_neg he];exact h1) (gf.same sm1 gf.refl))
     . rw[aq h5];refine cQ ⟨_,rfl,rfl,hfr,T.cO,T.cP,cT,L,dL,r,x,s,id,6,rfl,h,by have:=rm.out;omega,λx' H' h' hX o'=>?_⟩
       exact q.ok (r':=r) (x':=x') (by unfold Rc28.onPriority;rw[if_neg hi,if_pos h5];exact h') (gf.of o' hX)
def VN(F:j5 K "reset_came" "reset_came" Fl f fd)(T:Txt K mg A)(um:jQ P w K mg base "is_idle" dW 1 ["line","number"] (Zu A))(du:jQ P w K mg base "number_of_bytes" dW 1 ["row"] (Us K))(ji:DQ P w K mg base "Event" A.Event 1 ["self","kind","stream","no_more","code"] (tW A))(vh:jQ P w K mg base "tell" dW 4 ["line","event"] (Lh A)):dR P w K mg base dW 5 f fd ["line","frame"] (spH A λs _ id b=>Rc28.onReset s id b):=by
 refine F.mZ (N:=["line","frame"]) (λ_ _ _ s H _ _ _ hr h _=>?_)
 . obtain⟨L,dL,r,x,s,fr,k,f,id,bd,b,rfl,h,rm,B,q⟩:=h;have hu:=zO hr;refine⟨_,(ao (cV (bF pI (aaO 1 rfl) bx (bO _)) (aG (aZ (cR T.gj))) bC)
    (ao (cV (bF uA (bV bc (by rfl) T.gO aO (aa (aaO 1 rfl) aK)) bx (bO _)) (aG (aZ (cR T.lB))) bC)
    (ao (cV (iB (aU um hr.lw (aa (pv 0) (aa (aaO 1 rfl) aK)))) (aG (aZ (cR T.gj))) bC)
    (ao (cV (O3 (Y5 hu (aaO 1 rfl) (aaO 0 rfl))) (ao (dz (TY (aaO 0 rfl) (aaO 1 rfl) ⟨rfl,rfl,rfl,rfl⟩))
    (aG (dz (aU vh hr.lw (aa (pv 0) (aa (qt ji hr.lw (aa (cR T.ag9) (aa (aaO 1 rfl) (aa qG (aa (aU du hr.lw (aa (aaO 1 rfl) aK)) aK))))) aK)))))) bC)
    (aG (aZ (cR T.oA))))))),?_⟩
   obtain⟨dx,hfr⟩:=B.ob;refine⟨rfl,hfr,T.cO,T.cP,cT,rfl,_,rfl,?_⟩;rw[Js];by_cases hi:id=0
   . rw[az hi];exact cQ (q.die (c:=1) h (by unfold Rc28.onReset;rw[if_pos hi]) (by decide))
   . rw[aq hi];refine cY ⟨rfl,hfr,T.cO,T.eZ,fD,_,_,rfl,.inl (fH.of B.lb),rfl,_,rfl,?_⟩;rw[cA,show decide (V.int ((b.length:Nat):Int)=V.int 4)=decide (b.length=4) from Jt _ 4];by_cases h4:b.length=4
     . rw[az h4];refine cY ⟨_,rfl,rfl,hfr,T.cO,T.cP,cT,L,dL,r,s,id,rfl,h.ob,h.highest,_,rfl,?_⟩
       cases Jr:idle s id with
       |true=>exact cQ (q.die (c:=1) h (by unfold Rc28.onReset;rw[if_neg hi,if_neg (by omega),if_pos Jr]) (by decide))
       |false=>
        have e0:Rc28.onReset s id b=if (Rc28.find s id).isNone=true then s else Rc28.tell (Rc28.drop s id) (.reset id (Rc28.num b)):=by
         unfold Rc28.onReset;rw[if_neg hi,if_neg (by omega),if_neg (by rw[Jr];simp)]
        rw[e0]at q;refine cY ⟨rfl,hfr,T.cO,T.cP,cT,rfl,h.ob,T.cN,T.eV,eN,r.streams,_,rfl,uY.k (k:=.inl (id:Int)) h.tZ.ob,_,rfl,?_⟩;rcases Bu h.tZ.st id with⟨v1,v2⟩|⟨i,y,a,v1,v2,v3,v4,v5,v6⟩
        . rw[v2];refine cY (q.aaJ h ?_);rw[show Rc28.find s id=none from v1];rfl
        . rw[show Rc28.find s id=some y from v1]at q;rw[v2];refine cQ ⟨rfl,h.ob,T.cN,T.eV,eN,r.streams,rfl,.inl ⟨_,.inl h.tZ.ob⟩,rfl,hfr,T.cO,T.cP,cT,_,_,_,h.tZ.ob,rfl,v2,?_⟩;have o1:gm [r.streams] H (L2.bM H r.streams (.dK (Bl (qD x.as s.streams) (.inl (id:Int))))):=gm.bM (.head _);have h1:=h.Yh o1 aB;have st1:gf (foot L r x) H (foot L r {x with as:=uG x.as s.streams id}) (L2.bM H r.streams (.dK (Bl (qD x.as s.streams) (.inl (id:Int))))):=by
           refine gf.of (o1.mono λy hy=>by rw[ak.mp hy];exact cC (j:=2) rfl) λy hy=>?_
           unfold foot at hy ⊢;simp only[aJ,dY]at hy ⊢;rcases hy with z|z|z|z|z|z|z|z|z
           . exact .inl z
           . exact .inr (.inl z)
           . exact .inr (.inr (.inl z))
           . exact .inr (.inr (.inr (.inl z)))
           . exact .inr (.inr (.inr (.inr (.inl z))))
           . exact .inr (.inr (.inr (.inr (.inr (.inl z)))))
           . exact .inr (.inr (.inr (.inr (.inr (.inr (.inl z))))))
           . exact .inr (.inr (.inr (.inr (.inr (.inr (.inr (.inl z)))))))
           . exact .inr (.inr (.inr (.inr (.inr (.inr (.inr (.inr ((tu _ _ _).mem z))))))))
          have B1:=B.Rz st1;generalize L2.bM H r.streams (.dK (Bl (qD x.as s.streams) (.inl (id:Int))))=H1 at h1 st1 B1 o1;obtain⟨dx1,hfr1⟩:=B1.ob;refine⟨_,rfl,rfl,hfr1,T.cO,T.cP,cT,rfl,hfr1,T.cO,T.eZ,fD,_,_,rfl,fH.of B1.lb,by have:=B1.hl;omega,?_⟩
          dsimp only[fG,tC,oO];refine zU λa' da hh bb H2 ha hha hba n1 n2 n3 e1 e2 e3 sm2=>?_;have h2:=h1.same sm2;refine⟨L,dL,r,_,_,a',.reset id (Rc28.num b),rfl,h2,Kf h1.wL ha hha hba e1 e2 e3 ⟨rfl,rfl,rfl,rfl⟩ rfl rfl,by show 0<=100000;decide,by have:=rm.evs;show s.events.length+1<=_;omega,λr' H3 h3 hf o3=>?_⟩
          refine q.ok (r':=r') (x':={x with as:=uG x.as s.streams id}) ?_ (st1.trans (gf.same sm2 (gf.of o3 λy hy=>by rw[hf]at hy;exact hy)))
          exact h3
     . rw[aq h4];exact cQ (q.die (c:=6) h (by unfold Rc28.onReset;rw[if_neg hi,if_pos h4]) (by decide))
def Tz(F:j5 K "window_came" "window_came" Cm f fd)(T:Txt K mg A)(um:jQ P w K mg base "is_idle" dW 1 ["line","number"] (Zu A))(dM:jQ P w K mg base "number_without_top_bit" dW 2 ["row"] (abj K))(xu:jQ P w K mg base "grow_window" dW 1 ["owner","growth"] (agv K))(dC:jQ P w K mg base "fail_stream" dW 3 ["line","number","code"] (yN A)):dR P w K mg base dW 4 f fd ["line","frame"] (spH A λs _ id b=>Rc28.onWindow s id b):=by
 refine F.mZ (N:=["line","frame","growth","fault"]) (λ_ _ _ s H _ _ _ hr h nd0=>?_)
 . obtain⟨L,dL,r,x,s,fr,k,f,id,bd,b,rfl,h,rm,B,q⟩:=h;have hu:=zO hr;refine⟨_,(ao (cV (bF uA (bV bc (by rfl) T.gO aO (aa (aaO 1 rfl) aK)) bx (bO _)) (aG (aZ (cR T.lB))) bC)
    (ao (cB (i:=2) nd0 rfl (Or.inl rfl) (aU dM hr.lw (aa (aaO 1 rfl) aK)))
    (ao (cV (bF pI (aaO 1 rfl) bx (bO _)) (aG (aZ (aU xu hr.lw (aa (pv 0) (aa (pv 2) aK))))) bC)
    (ao (cV (iB (aU um hr.lw (aa (pv 0) (aa (aaO 1 rfl) aK)))) (aG (aZ (cR T.gj))) bC)
    (ao (cV (O3 (Y5 hu (aaO 1 rfl) (aaO 0 rfl))) (ao (cB (i:=3) nd0 rfl (Or.inl rfl) (aU xu hr.lw (aa (MK hu (aaO 0 rfl) (aaO 1 rfl) (λ_ _=>rfl)) (aa (pv 2) aK))))
    (aG (cV (bF uA (pv 3) (cR T.oA) (bO _)) (aG (dz (aU dC hr.lw (aa (pv 0) (aa (aaO 1 rfl) (aa (pv 3) aK)))))) bC))) bC)
    (aG (aZ (cR T.oA)))))))),?_⟩
   obtain⟨dx,hfr⟩:=B.ob;refine⟨rfl,hfr,T.cO,T.eZ,fD,_,_,rfl,.inl (fH.of B.lb),rfl,_,rfl,?_⟩;rw[cA,show decide (V.int ((b.length:Nat):Int)=V.int 4)=decide (b.length=4) from Jt _ 4];by_cases h4:b.length=4
   . rw[az h4];refine cY ⟨rfl,hfr,T.cO,T.eZ,fD,_,_,rfl,fH.of B.lb,by omega,?_⟩;refine⟨rfl,hfr,T.cO,T.cP,cT,rfl,_,rfl,?_⟩;rw[Js];generalize hn:Rc28.num b%2^31=n;by_cases hi:id=0
     . rw[az hi];have e0:Rc28.onWindow s id b=if (n:Int)=0 then Rc28.die s 1 else if TOP<s.window+n then Rc28.die s 3 else {s with window:=s.window+n}:=by
        unfold Rc28.onWindow;rw[hn];dsimp only;rw[if_neg (by omega),if_pos hi]
       rw[e0]at q;refine cQ ⟨_,rfl,_,rfl,L,A.dF,dL,bI r,r.window,n,rfl,h.ob,T.cN,T.xK,zT,qg,λz=>?_,λz z2=>?_,λz z2=>?_⟩
       . exact q.die (c:=1) h (by rw[if_pos (by omega)]) (by decide)
       . exact q.die (c:=3) h (by rw[if_neg (by omega),if_pos (by rw[<-h.window];exact z2)]) (by decide)
       . rw[if_neg (by omega),if_neg (by rw[<-h.window];exact z2)]at q
         rw[Hv];have o1:gm [L] H (L2.bM H L (.ins A.dF dL (bI {r with window:=r.window+(n:Int)}))):=gm.bM (.head _);refine q.ok (r':={r with window:=r.window+(n:Int)}) (x':=x) ?_ (gf.of (o1.mono λy hy=>by rw[ak.mp hy];exact cC (j:=0) rfl) λ_ hy=>hy)
         rw[<-h.window];exact h.ale o1 aB
     . rw[aq hi];refine cY ⟨_,rfl,rfl,hfr,T.cO,T.cP,cT,L,dL,r,s,id,rfl,h.ob,h.highest,_,rfl,?_⟩
       cases Jr:idle s id with
       |true=>exact cQ (q.die (c:=1) h (by unfold Rc28.onWindow;dsimp only;rw[if_neg (by omega),if_neg hi,if_pos Jr]) (by decide))
       |false=>
        refine cY ⟨rfl,hfr,T.cO,T.cP,cT,rfl,h.ob,T.cN,T.eV,eN,r.streams,_,rfl,uY.k (k:=.inl (id:Int)) h.tZ.ob,_,rfl,?_⟩;rcases Bu h.tZ.st id with⟨v1,v2⟩|⟨i,y,a,v1,v2,v3,v4,⟨da,rs,s1,s2,s3⟩,v6⟩
        . rw[v2];refine cY (q.aaJ h ?_);unfold Rc28.onWindow;dsimp only;rw[if_neg (by omega),if_neg hi,if_neg (by rw[Jr];simp),show Rc28.find s id=none from v1]
        . have e0:Rc28.onWindow s id b=if (n:Int)=0 then Rc28.fail s id 1 else if TOP<y.window+n then Rc28.fail s id 3 else Rc28.change s id λy=>{y with window:=y.window+n}:=by
           unfold Rc28.onWindow;rw[hn];dsimp only;rw[if_neg (by omega),if_neg hi,if_neg (by rw[Jr];simp),show Rc28.find s id=some y from v1]
          rw[e0]at q;rw[v2];have dg:uY H r.streams (.int (id:Int)) (some (.ref a)):=by have:=uY.k (k:=.inl (id:Int)) h.tZ.ob;rw[v2]at this;exact this
          refine cQ ⟨rfl,h.ob,T.cN,T.eV,eN,rfl,hfr,T.cO,T.cP,cT,r.streams,.ref a,rfl,dg,_,rfl,a,A.Stream,da,gV rs,rs.window,n,rfl,s1,T.nF,T.o9,qp,zz,λz=>?_,λz z2=>?_,λz z2=>?_⟩
          . refine⟨_,rfl,rfl,_,rfl,cQ ⟨_,rfl,rfl,hfr,T.cO,T.cP,cT,_,rfl,L,dL,r,x,s,id,1,rfl,h,by have:=rm.out;omega,λx' H' h' hX o'=>?_⟩⟩
            rw[if_pos (by omega)]at q;exact q.ok (r':=r) (x':=x') h' (gf.of o' hX)
          . refine⟨_,rfl,rfl,_,rfl,cQ ⟨_,rfl,rfl,hfr,T.cO,T.cP,cT,_,rfl,L,dL,r,x,s,id,3,rfl,h,by have:=rm.out;omega,λx' H' h' hX o'=>?_⟩⟩
            rw[if_neg (by omega),if_pos (by rw[<-s2];exact z2)]at q
            exact q.ok (r':=r) (x':=x') h' (gf.of o' hX)
          . refine⟨_,rfl,rfl,_,rfl,cY ?_⟩;rw[if_neg (by omega),if_neg (by rw[<-s2];exact z2)]at q
            rw[wY];have o1:gm [a] H (L2.bM H a (.ins A.Stream da (gV {rs with window:=rs.window+(n:Int)}))):=gm.bM (.head _);obtain⟨h',oX⟩:=h.IV (id:=id) (g:=λy=>{y with window:=y.window+(n:Int)}) o1 v3 v4 v6 rfl ⟨da,_,aB,by rw[<-s2],s3⟩
            exact q.ok (r':=r) (x':=x) h' (gf.of oX λ_ hy=>hy)
   . rw[aq h4];exact cQ (q.die (c:=6) h (by unfold Rc28.onWindow;dsimp only;rw[if_pos h4]) (by decide))
def Aw(s:Ra)(id:Nat)(b:Rb):Ra:=if b.isEmpty=true then s else Rc28.send s 8 0 id (Rc28.be 4 b.length)
def afE(s:Ra)(id:Nat)(b:Rb):(Aw s id b).out.length<=s.out.length+13:=by
 unfold Aw;split
 . omega
 . show (s.out++Rc28.frame 8 0 id (Rc28.be 4 b.length)).length<=_
   unfold Rc28.frame;rw[aF,aF,nq,bj,bj,aF,nq,nq];omega
inductive agu(A:Ad)(vs:List V)(H:Hp)(Q:VK)(_:XK):Prop
 |mk (L dL:Addr) (r:gM) (x:Lx) (s:Ra) (fr:Addr) (k f id:Nat) (bd:Addr) (b:Rb) (n:Nat) (_:vs=[.ref L,.int (n:Int),.ref fr]) (_:gb A H L dL r x s) (_:s.out.length+200<=sizeLine) (_:FrB A (foot L r x) H fr k f id bd b) (_:∀H',gb A H' L dL r x (Aw s n b)->gm (foot L r x) H H'->Q .non H')
def Mv(F:j5 K "give_back_room" "give_back_room" wZ f fd)(T:Txt K mg A)(dO:jQ P w K mg base "bytes_of_number" dW 1 ["number","count"] aeM)(eY:jQ P w K mg base "send_frame" dW 2 ["line","kind","flags","stream","body"] (xr A)):dR P w K mg base dW 3 f fd ["line","number","frame"] (agu A):=by
 refine F.mZ (N:=["line","number","frame"]) (λ_ _ _ s H _ _ _ hr h _=>?_)
 . obtain⟨L,dL,r,x,s,fr,k,f,id,bd,b,n,rfl,h,hz,B,q⟩:=h;refine⟨_,(aG (cV (bF qF (bV bc (by rfl) T.gO aO (aa (aaO 2 rfl) aK)) bx (bO _)) (aG (dz (aU eY hr.lw (aa (pv 0) (aa (cR T.Sh) (aa bx (aa (pv 1) (aa (aU dO hr.lw (aa (bV bc (by rfl) T.gO aO (aa (aaO 2 rfl) aK)) (aa bx aK))) aK)))))))) bC)),?_⟩;obtain⟨dx,hfr⟩:=B.ob;refine⟨rfl,hfr,T.cO,T.eZ,fD,_,_,rfl,.inl (fH.of B.lb),_,_,rfl,rfl,_,rfl,?_⟩;rw[cA];by_cases hb:b=[]
   . subst hb;refine cY (q H ?_ gm.refl);exact h
   . have hpos:0<b.length:=qX.mpr hb;rw[show decide (((b.length:Nat):Int)>0)=true from az (by omega)];refine cQ ⟨_,rfl,_,rfl,rfl,hfr,T.cO,T.eZ,fD,_,_,rfl,.inl (fH.of B.lb),b.length,4,by rw[cA];rfl,by decide,λp1 hp1 H1 e1 s1=>?_⟩
     refine⟨L,dL,r,s.out,8,0,n,p1,_,rfl,s1 _ _ h.ob,s1 _ _ h.out,e1,Ne.symm (aD h.out hp1),by decide,by decide,by rw[nq];omega,λH2 e2 o2=>?_⟩
     have o2':gm [r.dU] H H2:=(cZ.iV s1).trans o2;refine q H2 ?_ (o2'.mono yc);unfold Aw;rw[if_neg (by cases b with|nil=>exact absurd rfl hb|cons c b=>simp)];exact h.acC o2' e2
def YH(F:j5 K "data_came" "data_came" HR f fd)(T:Txt K mg A)(m8:jQ P w K mg base "without_padding" dW 2 ["frame"] (agA A))(um:jQ P w K mg base "is_idle" dW 1 ["line","number"] (Zu A))(uh:jQ P w K mg base "give_back_room" dW 3 ["line","number","frame"] (agu A))(dC:jQ P w K mg base "fail_stream" dW 3 ["line","number","code"] (yN A))(dw:rC P w K mg base A.sZ "has_set" dW 1 ["self","bit"] (uV A))(Dy:jQ P w K mg base "data_event" dW 3 ["stream","no_more","body"] (Ik A))(vh:jQ P w K mg base "tell" dW 4 ["line","event"] (Lh A)):
 dR P w K mg base dW 5 f fd ["line","frame"] (spH A λs f id b=>Rc28.onData s f id b):=by
 refine F.mZ (N:=["line","frame","body","stream","last"]) (λ_ _ _ s H _ Q _ hr h nd0=>?_)
 . obtain⟨L,dL,r,x,s,fr,k,f,id,bd,b,rfl,h,rm,B,q⟩:=h;have hu:=zO hr;refine⟨_,(ao (cB (i:=2) nd0 rfl (Or.inl rfl) (aU m8 hr.lw (aa (pv 1) aK)))
    (ao (cV (uB (bF OJ (pv 2) yu (bO _)) (rZ (iB (aU um hr.lw (aa (pv 0) (aa (aaO 1 rfl) aK)))))).pt (aG (aZ (cR T.gj))) bC)
    (ao (dz (aU uh hr.lw (aa (pv 0) (aa bx (aa (pv 1) aK)))))
    (ao (cB (i:=3) nd0 rfl (Or.inl rfl) (aa6 hu (aaO 0 rfl) (aaO 1 rfl) ⟨rfl,rfl,rfl,rfl⟩))
    (ao (cV (uB (bF OJ (pv 3) yu (bO _)) (rZ (rY (iB (aaO 3 rfl))))).pt (ao (dz (aU dC hr.lw (aa (pv 0) (aa (aaO 1 rfl) (aa (cR T.vm) aK)))))
    (aG (aZ (cR T.oA)))) bC)
    (ao (cB (i:=4) nd0 rfl (Or.inl rfl) (nJ T.cO (pv 1) dw hr.lw lU (aa (cR T.X8) aK)))
    (ao (cV (iB (pv 4)) (aG (abu 3 qG rfl)) (aG (dz (aU uh hr.lw (aa (pv 0) (aa (aaO 1 rfl) (aa (pv 1) aK)))))))
    (ao (dz (aU vh hr.lw (aa (pv 0) (aa (aU Dy hr.lw (aa (aaO 1 rfl) (aa (pv 4) (aa (pv 2) aK)))) aK))))
    (aG (aZ (cR T.oA))))))))))),?_⟩
   obtain⟨dx,hfr⟩:=B.ob;have hid0:id=0->idle s id=true:=λe=>by rw[e];unfold idle;simp
   refine⟨_,rfl,fr,k,f,id,bd,b,rfl,⟨dx,hfr⟩,B.hf,B.lb,λd p H1 hd hp hp1 sm1=>?_,λhd=>?_⟩
   . have h1:=h.same sm1;have B1:FrB A (foot L r x) H1 fr k f id bd b:=B.Rz (gf.same sm1 gf.refl);have hpX:p∉foot L r x:=by
      rcases hp with rfl|hp
      . exact B.nb
      . exact h.wL.out hp
     obtain⟨dx1,hfr1⟩:=B1.ob;refine⟨_,rfl,rfl,_,rfl,cY ?_⟩;refine⟨_,rfl,rfl,hfr1,T.cO,T.cP,cT,L,dL,r,s,id,rfl,h1.ob,h1.highest,_,rfl,?_⟩
     cases hidl:idle s id with
     |true=>
      refine cQ (q.Wm (c:=1) (s':=s) ?_ (by decide) h1.pd (gf.same sm1 (gf.of gm.refl qK)));unfold Rc28.onData;by_cases h0:id=0
      . rw[if_pos h0]
      . rw[if_neg h0,hd];dsimp only;rw[if_pos hidl]
     |false=>
      have h0:id≠0:=λe=>by rw[hid0 e]at hidl;cases hidl
      have e0:Rc28.onData s f id b=match Rc28.find (Aw s 0 b) id with
       |none=>Rc28.fail (Aw s 0 b) id 5
       |some x=>if x.comes=false then Rc28.fail (Aw s 0 b) id 5 else
        Rc28.tell (Rc28.change (if b.isEmpty=true\/decide (f%2=1)=true then Aw s 0 b else Rc28.send (Aw s 0 b) 8 0 id (Rc28.be 4 b.length)) id λy=>{y with comes:=!decide (f%2=1)}) (.data id d (decide (f%2=1))):=by
       unfold Rc28.onData;rw[if_neg h0,hd];dsimp only;rw[if_neg (by rw[hidl];simp)]
       rfl
      rw[e0]at q;have go:=afE s 0 b;have ge:(Aw s 0 b).events=s.events:=by unfold Aw;split<;>rfl
      refine cY ⟨_,rfl,_,rfl,L,dL,r,x,s,fr,k,f,id,bd,b,0,rfl,h1,by have:=rm.out;omega,B1,λH2 h2 o2=>?_⟩
      have st2:gf (foot L r x) H (foot L r x) H2:=gf.same sm1 (gf.of o2 λ_ hy=>hy);have B2:=B.Rz st2;have hp2:H2 p=some (.cM (bv d)):=o2 _ _ hp1 hpX;have rmo:=rm.out;have rme:=rm.evs;rw[<-ge]at rme;generalize Aw s 0 b=s1 at q h2 go ge rme;obtain⟨dx2,hfr2⟩:=B2.ob;have fl:wJ A L dL (foot L r x) H (Rc28.fail s1 id 5) Q->∀v:Option V,Dq (yX (uc (yN A) [] E0 (fG (iw 0) (fG (tFv K 1 "stream") (fG (tC (.int 5)) oO))))) (Dn (tC (.int 0))) {nx:=λ_ H'=>Q .non H',rt:=Q} [some (.ref L),some (.ref fr),some (.ref p),v,none] H2:=by
       intro q v;refine⟨_,rfl,rfl,hfr2,T.cO,T.cP,cT,L,dL,r,x,s1,id,5,rfl,h2,by omega,λx' H' h' hX o'=>?_⟩;exact q.ok (r':=r) (x':=x') h' (st2.trans (gf.of o' hX))
      refine⟨rfl,h2.ob,T.cN,T.eV,eN,r.streams,rfl,.inl ⟨_,.inl h2.tZ.ob⟩,rfl,hfr2,T.cO,T.cP,cT,_,uY.k (k:=.inl (id:Int)) h2.tZ.ob,?_⟩;rcases Bu h2.tZ.st id with⟨v1,v2⟩|⟨i,y,a,v1,v2,v3,v4,⟨da,rs,s1',s2',s3'⟩,v6⟩
      . rw[v2];rw[show Rc28.find s1 id=none from v1]at q;refine⟨_,rfl,rfl,_,rfl,cQ (cQ ?_)⟩;exact fl q _
      . rw[v2];rw[show Rc28.find s1 id=some y from v1]at q;refine⟨_,rfl,rfl,_,rfl,cY ?_⟩;refine⟨rfl,s1',T.nF,T.jJ,qm,_,rfl,?_⟩;rw[s3'.1];dsimp only at q
        cases hc:y.comes with
        |false=>
         rw[if_pos hc]at q;exact cQ (fl q _)
        |true=>
         rw[if_neg (by rw[hc];simp)]at q
         refine cY ⟨_,rfl,_,_,_,rfl,hfr2,kh,fr,k,f,id,1,bd,rfl,⟨dx2,hfr2⟩,B2.hf,.inl rfl,?_⟩;rw[ue];have ham:a∈x.as:=cD v3;have fin:∀(last:Bool)(s2:Ra)(H3:Hp),gb A H3 L dL r x s2->gf (foot L r x) H (foot L r x) H3->H3 p=some (.cM (bv d))->s2.events.length+1<=sizeLine->wJ A L dL (foot L r x) H (Rc28.tell s2 (.data id d last)) Q ->
          Dq (yX (uc (Lh A) [] E0 (fG (iw 0) (fG (uc (Ik A) [] E0 (fG (tFv K 1 "stream") (fG (iw 4) (fG (iw 2) oO)))) oO)))) (Dn (tC (.int 0))) {nx:=λ_ H'=>Q .non H',rt:=Q} [some (.ref L),some (.ref fr),some (.ref p),some (.ref a),some (.bl last)] H3:=by
          intro last s2 H3 h3 st3 hp3 hz q;obtain⟨dx3,hfr3⟩:=(B.Rz st3).ob;refine⟨_,rfl,rfl,hfr3,T.cO,T.cP,cT,_,rfl,_,rfl,foot L r x,id,last,p,d,rfl,h3.wL,hp3,hpX,λa' H4 ha' hev sm4=>?_⟩;refine⟨L,dL,r,x,s2,a',.data id d last,rfl,h3.same sm4,hev,by show 0<=100000;decide,hz,λr' H5 h5 hf o5=>?_⟩
          exact q.ok (r':=r') (x':=x) h5 (st3.trans (gf.same sm4 (gf.of o5 λy hy=>by rw[hf]at hy;exact hy)))
         by_cases hl:f%2=1
         . rw[az hl]at q ⊢;refine⟨_,rfl,_,rfl,cQ ⟨rfl,s1',T.nF,T.jJ,zz,?_⟩⟩;rw[vV];have o3:gm [a] H2 (L2.bM H2 a (.ins A.Stream da (gV {rs with jH:=false}))):=gm.bM (.head _);obtain⟨h3,oX3⟩:=h2.IV (id:=id) (g:=λy=>{y with comes:=false}) o3 v3 v4 v6 rfl ⟨da,_,aB,s2',rfl,s3'.2⟩
           rw[if_pos (.inr rfl)]at q;refine fin true _ _ h3 (st2.trans (gf.of oX3 λ_ hy=>hy)) (oX3 _ _ hp2 hpX) (by show s1.events.length+1<=_;omega) q
         . rw[aq hl]at q ⊢;refine⟨_,rfl,_,rfl,cY ⟨_,rfl,rfl,hfr2,T.cO,T.cP,cT,_,rfl,L,dL,r,x,s1,fr,k,f,id,bd,b,id,rfl,h2,by omega,B2,λH3 h3 o3=>?_⟩⟩;have st3:=st2.trans (gf.of o3 λ_ hy=>hy);have e3:(if b.isEmpty=true\/false=true then s1 else Rc28.send s1 8 0 id (Rc28.be 4 b.length))=Aw s1 id b:=by
            unfold Aw;by_cases hb:b.isEmpty=true
            . rw[if_pos (.inl hb),if_pos hb]
            . rw[if_neg (by simp[hb]),if_neg hb]
           have gs:(Aw s1 id b).streams=s1.streams:=by unfold Aw;split<;>rfl
           have gev:(Aw s1 id b).events=s1.events:=by unfold Aw;split<;>rfl
           rw[e3]at q;have hs3:Qo A H3 a {y with comes:=true}:=by
            obtain⟨a',ha',hst⟩:=gW h3.tZ.st (show (Aw s1 id b).streams[i]? = some y by rw[gs];exact v4)
            obtain rfl:a'=a:=cz (ha'.symm.trans v3);obtain⟨d1,r1,z1,z2,z3⟩:=hst;exact⟨d1,r1,z1,z2,by rw[z3.1,hc],z3.2⟩
           obtain⟨h4,_⟩:=h3.IV (id:=id) (g:=λy=>{y with comes:=true}) (gm.refl (X:=[a])) v3 (show (Aw s1 id b).streams[i]? = some y by rw[gs];exact v4) v6 rfl hs3
           exact fin false _ _ h4 st3 (o3 _ _ hp2 hpX) (by show (Aw s1 id b).events.length+1<=_;rw[gev];omega) q
   . refine⟨_,rfl,rfl,_,rfl,cQ (cQ ?_)⟩;refine q.die (c:=1) h ?_ (by decide);unfold Rc28.onData;by_cases h0:id=0
     . rw[if_pos h0]
     . rw[if_neg h0,hd]
def acZ(A:Ad)(L dL:Addr)(X:List Addr)(H:Hp)(t:Ra)(Q:VK):Prop:=∀r' x' H',gb A H' L dL r' x' t->gf X H (foot L r' x') H'->Q .non H'
inductive BkB(A:Ad)(X:List Addr)(H:Hp)(B:Addr)(k:Rk):Prop
 |mk (dB:_) (rb:_) (_:H B=some (.ins A.Block dB (zj rb))) (_:rb.stream=(k.id:Nat)) (_:rb.last=k.last) (_:rb.lC=k.self_) (_:B∉X)
def BkB.Rz{k:Rk}(b:BkB A X H B k)(s:gf X H X' H'):BkB A X' H' B k:=by
 obtain⟨dB,rb,h1,h2,h3,h4,h5⟩:=b;obtain⟨z1,z2⟩:=s.out h1 h5;exact⟨dB,rb,z1,h2,h3,h4,z2⟩
def oR.Rz{l:Addr}{hs:List Rh}(x:oR A X H l hs)(hl:l∉X)(s:gf X H X' H'):oR A X' H' l hs/\l∉X':=by
 obtain⟨as,h1,h2⟩:=x;obtain⟨z1,z2⟩:=s.out h1 hl;refine⟨⟨as,z1,bN h2 λa h z=>?_⟩,z2⟩;obtain⟨dx,n,v,a1,a2,a3,n1,n2,n3⟩:=z;obtain⟨b1,c1⟩:=s.out a1 n1;obtain⟨b2,c2⟩:=s.out a2 n2;obtain⟨b3,c3⟩:=s.out a3 n3;exact⟨dx,n,v,b1,b2,b3,c1,c2,c3⟩
inductive Nb(A:Ad)(vs:List V)(H:Hp)(Q:VK)(_:XK):Prop
 |mk (p dx:Addr) (wd:Int) (m:Bool) (_:vs=[.ref p,.int wd,.bl m]) (_:H p=some (.ins A.Stream dx [])) (_:Q .non (L2.bM H p (.ins A.Stream dx (gV ⟨wd,m,false⟩))))
def Th(F:j5 K "__init__" "Stream.__init__" BZ f fd)(T:Txt K mg A):dR P w K mg base dW 1 f fd ["self","window","more_may_come"] (Nb A):=by
 refine F.mZ (N:=["self","window","more_may_come"]) (λ_ _ _ _ _ _ _ _ _ h _=>?_)
 . obtain⟨p,dx,wd,m,rfl,hp,q⟩:=h;refine⟨_,(ao (abu 0 (pv 1) rfl)
    (ao (abu 0 (pv 2) rfl)
    (aG (abu 0 qG rfl)))),?_⟩
   refine⟨_,rfl,rfl,hp,T.nF,T.o9,(by show 0<1000;decide),?_⟩
   refine⟨_,rfl,rfl,aB,T.nF,T.jJ,(by show 1<1000;decide),?_⟩
   refine⟨rfl,aB,T.nF,T.mq,(by show 2<1000;decide),?_⟩
   rw[jc,jc];exact q
inductive Ij(A:Ad)(vs:List V)(H:Hp)(Q:VK)(_:XK):Prop
 |mk (p dx:Addr) (id:Int) (se la:Bool) (_:vs=[.ref p,.int id,.bl se,.bl la]) (_:H p=some (.ins A.Block dx [])) (_:∀(b:Addr)(H':Hp),H b=none->H' p=some (.ins A.Block dx (zj ⟨id,se,la,b⟩))->H' b=some (.cM [])->wN p H H'->Q .non H')
def Vu(F:j5 K "__init__" "Block.__init__" Es f fd)(T:Txt K mg A):dR P w K mg base dW 1 f fd ["self","stream","depends_on_itself","last"] (Ij A):=by
 refine F.mZ (N:=["self","stream","depends_on_itself","last"]) (λ_ _ _ _ _ _ _ _ _ h _=>?_)
 . obtain⟨p,dx,id,se,la,rfl,hp,q⟩:=h;refine⟨_,(ao (abu 0 (pv 1) rfl)
    (ao (abu 0 (pv 2) rfl)
    (ao (abu 0 (pv 3) rfl)
    (aG (abu 0 (jT aK) rfl))))),?_⟩
   refine⟨_,rfl,rfl,hp,T.lD,T.jm,(by show 0<1000;decide),?_⟩
   refine⟨_,rfl,rfl,aB,T.lD,T.oU,(by show 1<1000;decide),?_⟩
   refine⟨_,rfl,rfl,aB,T.lD,T.zf,(by show 2<1000;decide),?_⟩
   rw[jc,jc];refine⟨(by decide),λb hb=>⟨rfl,by rw[aM (aD aB hb)];exact aB,T.lD,T.v8,(by show 3<1000;decide),?_⟩⟩
   have hbp:p≠b:=aD aB hb;rw[aM (Ne.symm hbp)]at hb;refine q b _ hb (by rw[aB];rfl) (by rw[aM (Ne.symm hbp)];exact aB) ?_
   intro y o e hy;rw[aM hy,aM (aD e hb),aM hy];exact e
def Bt(s:Ra)(k:Rk)(l:List Rh)(y:Rt):Ra:=
 if y.comes=false then Rc28.fail s k.id 5 else if k.self_=true\/k.last=false\/goodTrailers l=false then Rc28.fail s k.id 1 else Rc28.tell (Rc28.change s k.id λx=>{x with comes:=false}) (.trailers k.id l)
inductive adS(A:Ad)(vs:List V)(H:Hp)(Q:VK)(_:XK):Prop
 |mk (L dL:Addr) (r:gM) (x:Lx) (s:Ra) (B l:Addr) (k:Rk) (hs:List Rh) (y:Rt) (_:vs=[.ref L,.ref B,.ref l]) (_:gb A H L dL r x s) (_:Rm s) (_:BkB A (foot L r x) H B k) (_:oR A (foot L r x) H l hs) (_:l∉foot L r x) (_:hs.length<=100000) (_:Rc28.find s k.id=some y) (_:acZ A L dL (foot L r x) H (Bt s k hs y) Q)
def Hr(F:j5 K "end_with_trailers" "end_with_trailers" uL f fd)(T:Txt K mg A)(dC:jQ P w K mg base "fail_stream" dW 3 ["line","number","code"] (yN A))(lA:jQ P w K mg base "are_trailers" dW 4 ["headers"] (Aq A))(o7:jQ P w K mg base "headers_event" dW 3 ["kind","stream","no_more","headers"] (Ao A))(vh:jQ P w K mg base "tell" dW 4 ["line","event"] (Lh A)):dR P w K mg base dW 5 f fd ["line","block","headers"] (adS A):=by
 refine F.mZ (N:=["line","block","headers","stream"]) (λ_ _ _ s H _ Q _ hr h nd0=>?_)
 . obtain⟨L,dL,r,x,s,B,l,k,hs,y,rfl,h,rm,bk,hl,hlX,jB,hfi,q⟩:=h;have hu:=zO hr;refine⟨_,(ao (cB (i:=3) nd0 rfl (Or.inl rfl) (MK hu (aaO 0 rfl) (aaO 1 rfl) (λ_ _=>rfl)))
    (aG (cV (rY (iB (aaO 3 rfl))) (aG (dz (aU dC hr.lw (aa (pv 0) (aa (aaO 1 rfl) (aa (cR T.vm) aK)))))) (aG (cV (uB (iB (aaO 1 rfl)) (uB (rY (iB (aaO 1 rfl))) (rZ (rY (iB (aU lA hr.lw (aa (pv 2) aK))))))).pt (aG (dz (aU dC hr.lw (aa (pv 0) (aa (aaO 1 rfl) (aa (cR T.gj) aK)))))) (ao (abu 3 qG rfl)
    (aG (dz (aU vh hr.lw (aa (pv 0) (aa (aU o7 hr.lw (aa (cR T.Sg) (aa (aaO 1 rfl) (aa qG (aa (pv 2) aK))))) aK))))))))))),?_⟩
   obtain⟨dB,rb,b1,b2,b3,b4,b5⟩:=bk;have rmo:=rm.out;have rme:=rm.evs;rcases Bu h.tZ.st k.id with⟨v1,v2⟩|⟨i,y',a,v1,v2,v3,v4,⟨da,rs,s1,s2,s3⟩,v6⟩
   . rw[show Rc28.find s k.id=none from v1]at hfi;cases hfi
   . obtain rfl:y'=y:=cz ((show Rc28.find s k.id=some y' from v1).symm.trans hfi);have dg:uY H r.streams (.int (k.id:Int)) (some (.ref a)):=by have:=uY.k (k:=.inl (k.id:Int)) h.tZ.ob;rw[v2]at this;exact this
     have fl:∀(c:Nat)(H1:Hp),cZ H H1->Bt s k hs y'=Rc28.fail s k.id c->yX (uc (yN A) [] E0 (fG (iw 0) (fG (tFv K 1 "stream") (fG (tC (.int (c:Int))) oO)))) {nx:=λ_ H'=>Q .non H',rt:=Q} [some (.ref L),some (.ref B),some (.ref l),some (.ref a)] H1:=by
      intro c H1 sm e;refine⟨_,rfl,rfl,sm _ _ b1,T.lD,T.jm,jl,L,dL,r,x,s,k.id,c,by rw[b2];rfl,h.same sm,by omega,λx' H' h' hX o'=>?_⟩
      exact q r x' H' (by rw[e];exact h') (gf.same sm (gf.of o' hX))
     refine⟨rfl,h.ob,T.cN,T.eV,eN,rfl,b1,T.lD,T.jm,jl,r.streams,.ref a,rfl,by rw[b2];exact dg,?_⟩
     refine⟨rfl,s1,T.nF,T.jJ,qm,_,rfl,?_⟩;rw[s3.1]
     cases hc:y'.comes with
     |false=>exact cQ (fl 5 H (λ_ _ e=>e) (by unfold Bt;rw[if_pos hc]))
     |true=>
      have e0:Bt s k hs y'=if k.self_=true\/k.last=false\/goodTrailers hs=false then Rc28.fail s k.id 1 else Rc28.tell (Rc28.change s k.id λx=>{x with comes:=false}) (.trailers k.id hs):=by
       unfold Bt;rw[if_neg (by rw[hc];simp)]
      refine cY ⟨rfl,b1,T.lD,T.oU,tE,_,rfl,?_⟩;rw[b4]
      cases hse:k.self_ with
      |true=>exact cQ (cQ (fl 1 H (λ_ _ e=>e) (by rw[e0,if_pos (.inl hse)])))
      |false=>
       refine cY ⟨rfl,b1,T.lD,T.zf,BP,_,rfl,?_⟩;rw[b3]
       cases hla:k.last with
       |false=>exact cQ (cQ (fl 1 H (λ_ _ e=>e) (by rw[e0,if_pos (.inr (.inl hla))])))
       |true=>
        refine cY ⟨_,rfl,foot L r x,l,hs,rfl,hl,λH1 sm1=>⟨_,rfl,?_⟩⟩;have hg:goodTrailers hs=hs.all Rc28.goodPlain:=rfl
        cases hgt:hs.all Rc28.goodPlain with
        |false=>exact cQ (fl 1 H1 sm1 (by rw[e0,if_pos (.inr (.inr (hg.trans hgt)))]))
        |true=>
         have e1:Bt s k hs y'=Rc28.tell (Rc28.change s k.id λx=>{x with comes:=false}) (.trailers k.id hs):=by
          rw[e0,if_neg (by rw[hse,hla,hg,hgt];simp)]
         rw[e1]at q;have h1:=h.same sm1;refine cY ⟨rfl,sm1 _ _ s1,T.nF,T.jJ,zz,?_⟩;rw[vV];have o3:gm [a] H1 (L2.bM H1 a (.ins A.Stream da (gV {rs with jH:=false}))):=gm.bM (.head _);obtain⟨h3,oX3⟩:=h1.IV (id:=k.id) (g:=λy=>{y with comes:=false}) o3 v3 v4 v6 rfl ⟨da,_,aB,s2,rfl,s3.2⟩
         have st3:gf (foot L r x) H (foot L r x) (L2.bM H1 a (.ins A.Stream da (gV {rs with jH:=false}))):=gf.same sm1 (gf.of oX3 λ_ hy=>hy);generalize L2.bM H1 a (.ins A.Stream da (gV {rs with jH:=false}))=H3 at h3 st3;obtain⟨hl3,hlX3⟩:=hl.Rz hlX st3;have b1':=st3.1 _ _ b1 b5;refine⟨_,rfl,rfl,b1',T.lD,T.jm,jl,_,rfl,foot L r x,2,k.id,true,l,hs,.trailers k.id hs,by rw[b2];rfl,h3.wL,hl3,hlX3,.inr ⟨rfl,rfl,rfl⟩,λa' H4 ha' hev sm4=>?_⟩
         refine⟨L,dL,r,x,_,a',.trailers k.id hs,rfl,h3.same sm4,hev,jB,by show s.events.length+1<=_;omega,λr' H5 h5 hf o5=>?_⟩
         exact q r' x H5 h5 (st3.trans (gf.same sm4 (gf.of o5 λy hy=>by rw[hf]at hy;exact hy)))
def ajB{R:Addr->Rt->Prop}{as:List Addr}(p:Paired R as l)(h:Az (qD as l) (.inl (y.id:Int))=none):MP (qD as l) (.inl (y.id:Int)) (.ref a)=qD (as++[a]) (l++[y]):=by
 unfold MP;rw[UL,h,if_neg (by simp)];clear h;induction p with
 |nil=>rfl
 |cons r t ih=>rw[o8,jU,ih];rfl
def gb.alD(h:gb A H L dL r x s)(o:gm [L] H H')(e:H' L=some (.ins A.dF dL (bI {r with highest:=(n:Int)}))):gb A H' L dL {r with highest:=(n:Int)} x {s with highest:=n}:=
 h.z6 (o.mono λz hz=>by rw[ak.mp hz];exact .head _) e (h.tZ.iV o (rH h.nd 2 0 rfl rfl) (h.Gf (j:=0) rfl).2).st rfl rfl h.start rfl rfl h.settled rfl rfl h.failed h.dead rfl rfl h.window h.first h.said rfl rfl rfl rfl rfl rfl rfl rfl rfl
def Sw{a:Addr}:∀y∈foot L r {x with as:=x.as++[a]},y∈foot L r x\/y=a:=λy hy=>by
 unfold foot at hy ⊢;simp only[aJ,dY,cX,or_false]at hy ⊢;rcases hy with z|z|z|z|z|z|z|z|z|z
 . exact .inl (.inl z)
 . exact .inl (.inr (.inl z))
 . exact .inl (.inr (.inr (.inl z)))
 . exact .inl (.inr (.inr (.inr (.inl z))))
 . exact .inl (.inr (.inr (.inr (.inr (.inl z)))))
 . exact .inl (.inr (.inr (.inr (.inr (.inr (.inl z))))))
 . exact .inl (.inr (.inr (.inr (.inr (.inr (.inr (.inl z)))))))
 . exact .inl (.inr (.inr (.inr (.inr (.inr (.inr (.inr (.inl z))))))))
 . exact .inl (.inr (.inr (.inr (.inr (.inr (.inr (.inr (.inr z))))))))
 . exact .inr z
def gb.added(h:gb A H L dL r x s)(ha:H a=none)(o:gm [r.streams] H H')(e:H' r.streams=some (.dK (qD (x.as++[a]) (s.streams++[y]))))(hy:Qo A H' a y)(hn:s.streams.find? (λz=>z.id==y.id)=none):
 gb A H' L dL r {x with as:=x.as++[a]} {s with streams:=s.streams++[y]}:=by
 have hY:∀z∈[r.streams],z∈foot L r x:=λz hz=>by rw[ak.mp hz];exact cC (j:=2) rfl
 have oX:gm (foot L r x) H H':=o.mono hY;have t:=h.Gf (j:=2) rfl;have haX:a∉foot L r x:=h.wL.out ha;have g:∀z∈foot L r {x with as:=x.as++[a]},z∈foot L r x\/H z=none:=λz hz=>by
  rcases Sw z hz with q|q
  . exact .inl q
  . rw[q];exact .inr ha
 have ev:∀{b:Addr}{u:Option Rv},qI A (foot L r x) H b u->qI A (foot L r {x with as:=x.as++[a]}) H' b u:=fun {b u} z=>by
  have z1:=z.BL g;refine z1.iV λc ob eo hc=>o c ob eo λm=>hc ?_;rw[ak.mp m];exact cC (j:=2) rfl
 have hd:∀{b:Addr}{u:Rh},sU A (foot L r x) H b u->sU A (foot L r {x with as:=x.as++[a]}) H' b u:=fun {b u} z=>by
  have z1:=z.BL g;refine z1.iV λc ob eo hc=>o c ob eo λm=>hc ?_;rw[ak.mp m];exact cC (j:=2) rfl
 have nd':(foot L r {x with as:=x.as++[a]}).Nodup:=by
  have e:foot L r {x with as:=x.as++[a]}=foot L r x++[a]:=by unfold foot;simp only[jU,iC]
  rw[e];refine kZ.mpr ⟨h.nd,by simp,λb hb c hc=>?_⟩;rw[ak.mp hc];rintro rfl;exact haX hb
 refine⟨o _ _ h.ob (rH h.nd 0 2 rfl rfl),h.start,o _ _ h.part (rH h.nd 1 2 rfl rfl),h.settled,h.failed,h.dead,h.highest,h.window,h.first,h.said,o _ _ h.out (rH h.nd 5 2 rfl rfl),h.Gj.iV o t.1,⟨e,tL (vq h.tZ.st λb hb _ z=>z.iV o (t.2 b hb)) hy,?_⟩,?_,h.Dr,?_,h.wt,ev h.now,nd',λz hz=>?_⟩
 . rw[dm];refine kZ.mpr ⟨h.tZ.Hg,by simp,λb hb c hc=>?_⟩;rw[List.map_singleton,ak]at hc;obtain⟨z,hz,rfl⟩:=fL.mp hb;rw[hc];have:=List.find?_eq_none.mp hn z hz;simpa using this
 . obtain⟨bs,h1,h2⟩:=h.yd.nw;obtain⟨fs,h3,h4⟩:=h.yd.fi;exact⟨o _ _ h.yd.ob (rH h.nd 3 2 rfl rfl),⟨bs,o _ _ h1 (rH h.nd 4 2 rfl rfl),bN h2 λ_ _ z=>hd z⟩,⟨fs,oX _ _ h3 h.yd.fX,bN h4 λ_ _ z=>hd z⟩,CW h3 h.yd.fX g,cC (j:=3) rfl,cC (j:=4) rfl⟩
 . obtain⟨es,h1,h2⟩:=h.evs;exact⟨es,o _ _ h1 (rH h.nd 6 2 rfl rfl),bN h2 λ_ _ z=>ev z⟩
 . rcases Sw z hz with q|q
   . exact(h.wL.iV o λy hy=>by rw[ak.mp hy];exact⟨_,e⟩) z q
   . obtain⟨dx,rr,z1,_⟩:=hy;rw[q];exact⟨_,z1⟩
def begun(s:Ra)(k:Rk)(l:List Rh):Ra:=
 if k.self_=true\/Rc28.goodRequest l=false then Rc28.fail {s with highest:=k.id} k.id 1 else if 32<=s.streams.length then Rc28.fail {s with highest:=k.id} k.id 7
 else Rc28.tell {s with highest:=k.id,streams:=s.streams++[⟨k.id,!k.last,false,s.first⟩]} (.request k.id l k.last)
inductive adH(A:Ad)(vs:List V)(H:Hp)(Q:VK)(_:XK):Prop
 |mk (L dL:Addr) (r:gM) (x:Lx) (s:Ra) (B l:Addr) (k:Rk) (hs:List Rh) (_:vs=[.ref L,.ref B,.ref l]) (_:gb A H L dL r x s) (_:Rm s) (_:BkB A (foot L r x) H B k) (_:oR A (foot L r x) H l hs) (_:l∉foot L r x) (_:hs.length<=100000) (_:Rc28.find s k.id=none) (_:acZ A L dL (foot L r x) H (begun s k hs) Q)
def QS(F:j5 K "begin_stream" "begin_stream" z9 f fd)(T:Txt K mg A)(dC:jQ P w K mg base "fail_stream" dW 3 ["line","number","code"] (yN A))(rQ:jQ P w K mg base "are_request_headers" dW 5 ["headers"] (W6 A))(Bv:DQ P w K mg base "Stream" A.Stream 1 ["self","window","more_may_come"] (Nb A))(o7:jQ P w K mg base "headers_event" dW 3 ["kind","stream","no_more","headers"] (Ao A))(vh:jQ P w K mg base "tell" dW 4 ["line","event"] (Lh A)):dR P w K mg base dW 6 f fd ["line","block","headers"] (adH A):=by
 refine F.mZ (N:=["line","block","headers"]) (λ_ _ _ s H _ Q _ hr h _=>?_)
 . obtain⟨L,dL,r,x,s,B,l,k,hs,rfl,h,rm,bk,hl,hlX,jB,hfi,q⟩:=h;have hu:=zO hr;refine⟨_,(ao (abu 0 (aaO 1 rfl) rfl)
    (aG (cV (uB (iB (aaO 1 rfl)) (rZ (rY (iB (aU rQ hr.lw (aa (pv 2) aK)))))).pt (aG (dz (aU dC hr.lw (aa (pv 0) (aa (aaO 1 rfl) (aa (cR T.gj) aK)))))) (aG (cV (bF TJ (bV ad5 (by rfl) T.gO aO (aa (aaO 0 rfl) aK)) (cR T.G7) (bO _)) (aG (dz (aU dC hr.lw (aa (pv 0) (aa (aaO 1 rfl) (aa (cR T.Kh) aK)))))) (ao (ahQ hu (aaO 0 rfl) (aaO 1 rfl) (qt Bv hr.lw (aa (aaO 0 rfl) (aa (af7 (aaO 1 rfl)) aK))) rfl)
    (aG (dz (aU vh hr.lw (aa (pv 0) (aa (aU o7 hr.lw (aa (cR T.Wu) (aa (aaO 1 rfl) (aa (aaO 1 rfl) (aa (pv 2) aK))))) aK))))))))))),?_⟩
   obtain⟨dB,rb,b1,b2,b3,b4,b5⟩:=id bk;have rmo:=rm.out;have rme:=rm.evs;refine⟨rfl,b1,T.lD,T.jm,jl,rfl,h.ob,T.cN,T.tK,qg,?_⟩;rw[Q5,b2];have o1:gm [L] H (L2.bM H L (.ins A.dF dL (bI {r with highest:=(k.id:Int)}))):=gm.bM (.head _);have h1:=h.alD o1 aB;have st1:gf (foot L r x) H (foot L {r with highest:=(k.id:Int)} x) (L2.bM H L (.ins A.dF dL (bI {r with highest:=(k.id:Int)}))):=gf.of (o1.mono λy hy=>by rw[ak.mp hy];exact cC (j:=0) rfl) λ_ hy=>hy
   generalize L2.bM H L (.ins A.dF dL (bI {r with highest:=(k.id:Int)}))=H1 at h1 st1 o1;have bk1:=bk.Rz st1;obtain⟨hl1,hlX1⟩:=hl.Rz hlX st1;generalize hs1:({s with highest:=k.id}:Ra)=s1 at h1;generalize hr1:({r with highest:=(k.id:Int)}:gM)=r1 at h1 st1 bk1 hl1 hlX1;have fi1:Rc28.find s1 k.id=none:=by rw[<-hs1];exact hfi
   have eo:s1.out=s.out:=by rw[<-hs1]
   have ee:s1.events=s.events:=by rw[<-hs1]
   have q:acZ A L dL (foot L r x) H (if k.self_=true\/Rc28.goodRequest hs=false then Rc28.fail s1 k.id 1 else if 32<=s1.streams.length then Rc28.fail s1 k.id 7 else Rc28.tell {s1 with streams:=s1.streams++[⟨k.id,!k.last,false,s1.first⟩]} (.request k.id hs k.last)) Q:=by rw[<-hs1];exact q
   clear hs1 hr1 h bk hl hlX b1 b2 b3 b4 b5 hfi;obtain⟨dB,rb,b1,b2,b3,b4,b5⟩:=id bk1;have fl:∀(c:Nat)(H2:Hp),cZ H1 H2->acZ A L dL (foot L r x) H (Rc28.fail s1 k.id c) Q->yX (uc (yN A) [] E0 (fG (iw 0) (fG (tFv K 1 "stream") (fG (tC (.int (c:Int))) oO)))) {nx:=λ_ H'=>Q .non H',rt:=Q} [some (.ref L),some (.ref B),some (.ref l)] H2:=by
    intro c H2 sm q;refine⟨_,rfl,rfl,sm _ _ b1,T.lD,T.jm,jl,L,dL,r1,x,s1,k.id,c,by rw[b2];rfl,h1.same sm,by rw[eo];omega,λx' H' h' hX o'=>?_⟩
    exact q r1 x' H' h' (st1.trans (gf.same sm (gf.of o' hX)))
   refine⟨rfl,b1,T.lD,T.oU,tE,_,rfl,?_⟩;rw[b4]
   cases hse:k.self_ with
   |true=>
    rw[if_pos (.inl hse)]at q;exact cQ (cQ (fl 1 H1 (λ_ _ e=>e) q))
   |false=>
    refine cY ⟨_,rfl,foot L r1 x,l,hs,rfl,hl1,jB,λH2 sm2=>⟨_,rfl,?_⟩⟩
    cases hg:Rc28.goodRequest hs with
    |false=>
     rw[if_pos (.inr hg)]at q;exact cQ (fl 1 H2 sm2 q)
    |true=>
     rw[if_neg (by rw[hse,hg];simp)]at q
     have h2:=h1.same sm2;have b1':=sm2 _ _ b1;refine cY ⟨rfl,h2.ob,T.cN,T.eV,eN,r1.streams,_,rfl,h2.tZ.ob,_,_,rfl,rfl,_,rfl,?_⟩;rw[ab8 h2.tZ.st];by_cases h32:32<=s1.streams.length
     . rw[show decide (((s1.streams.length:Nat):Int)>=32)=true from az (by omega)];rw[if_pos h32]at q;exact cQ (fl 7 H2 sm2 q)
     . rw[show decide (((s1.streams.length:Nat):Int)>=32)=false from aq (by omega)];rw[if_neg h32]at q;refine cY ⟨rfl,h2.ob,T.cN,T.qb,xP,rfl,b1',T.lD,T.zf,BP,_,rfl,λa da ha hda hne=>⟨a,da,_,_,rfl,aB,rfl,?_⟩⟩;rw[jc];have sm3:cZ H2 (L2.bM (L2.bM H2 da (.own a)) a (.ins A.Stream da (gV ⟨r1.fC,!rb.last,false⟩))):=λc u e=>by
        rw[aM (aD e ha),aM (aD e hda)];exact e
       have u3:L2.bM (L2.bM H2 da (.own a)) a (.ins A.Stream da (gV ⟨r1.fC,!rb.last,false⟩)) a=some (.ins A.Stream da (gV ⟨r1.fC,!rb.last,false⟩)):=aB;generalize L2.bM (L2.bM H2 da (.own a)) a (.ins A.Stream da (gV ⟨r1.fC,!rb.last,false⟩))=H3 at sm3 u3;have h3:=h2.same sm3;have hv:Az (qD x.as s1.streams) (.inl (k.id:Int))=none:=by
        rcases RC h3.tZ.st k.id with⟨_,z⟩|⟨y,b,z,_⟩
        . exact z
        . rw[show Rc28.find s1 k.id=some y from z]at fi1;cases fi1
       refine⟨rfl,h3.ob,T.cN,T.eV,eN,rfl,sm3 _ _ b1',T.lD,T.jm,jl,r1.streams,_,rfl,by rw[b2];exact abx.k (k:=.inl (k.id:Int)) h3.tZ.ob (by rw[ab8 h3.tZ.st];exact bZ (Nat.lt_of_not_le h32) (by rw[bw];omega)),?_⟩
       rw[ajB (y:=⟨k.id,!k.last,false,s1.first⟩) h3.tZ.st hv]
       have o4:gm [r1.streams] H2 (L2.bM H3 r1.streams (.dK (qD (x.as++[a]) (s1.streams++[⟨k.id,!k.last,false,s1.first⟩])))):=(cZ.iV sm3).trans (gm.bM (.head _))
       have nas:a≠r1.streams:=Ne.symm (aD h2.tZ.ob ha);have h4:=h2.added (a:=a) (y:=⟨k.id,!k.last,false,s1.first⟩) ha o4 aB ⟨da,_,by rw[aM nas];exact u3,h2.first,by rw[b3],rfl⟩ fi1
       have st4:gf (foot L r1 x) H1 (foot L r1 {x with as:=x.as++[a]}) (L2.bM H3 r1.streams (.dK (qD (x.as++[a]) (s1.streams++[⟨k.id,!k.last,false,s1.first⟩])))):=by
        refine gf.same sm2 ⟨o4.mono λy hy=>by rw[ak.mp hy];exact cC (j:=2) rfl,λy hy=>?_⟩
        rcases Sw y hy with z|z
        . exact .inl z
        . rw[z];exact .inr ha
       generalize L2.bM H3 r1.streams (.dK (qD (x.as++[a]) (s1.streams++[⟨k.id,!k.last,false,s1.first⟩])))=H4 at h4 st4 o4
       obtain⟨dB4,rb4,c1,c2,c3,c4,c5⟩:=bk1.Rz st4;obtain⟨hl4,hlX4⟩:=hl1.Rz hlX1 st4;refine⟨_,rfl,rfl,c1,T.lD,T.jm,jl,rfl,c1,T.lD,T.zf,BP,_,rfl,_,1,k.id,k.last,l,hs,.request k.id hs k.last,by rw[c2,c3];rfl,h4.wL,hl4,hlX4,.inl ⟨rfl,rfl⟩,λa' H5 ha' hev sm5=>?_⟩
       refine⟨L,dL,r1,_,_,a',.request k.id hs k.last,rfl,h4.same sm5,hev,jB,by show s1.events.length+1<=_;rw[ee];omega,λr' H6 h6 hf o6=>?_⟩
       exact q r' _ H6 h6 (st1.trans (st4.trans (gf.same sm5 (gf.of o6 λy hy=>by rw[hf]at hy;exact hy))))
def gb.ajW(h:gb A H L dL r x s){t:Rc28.Table}(o:gm [r.table,x.nf] H H')(tb:rE A (foot L r x) H' r.table x.dt x.nf x.fx t.rows t.most)(tk:Wh t):gb A H' L dL r x {s with table:=t}/\gm (foot L r x) H H':=by
 have hY:∀y∈[r.table,x.nf],y∈foot L r x:=λy hy=>by
  rcases aJ.mp hy with rfl|hy
  . exact cC (j:=3) rfl
  . rw[ak.mp hy];exact cC (j:=4) rfl
 have oX:=o.mono hY;have t2:=h.agJ (j:=3) (k:=4) rfl rfl;refine⟨⟨o _ _ h.ob (CV h.nd 0 3 4 rfl rfl rfl),h.start,o _ _ h.part (CV h.nd 1 3 4 rfl rfl rfl),h.settled,h.failed,h.dead,h.highest,h.window,h.first,h.said,o _ _ h.out (CV h.nd 5 3 4 rfl rfl rfl),h.Gj.iV o t2.1,h.tZ.iV o (CV h.nd 2 3 4 rfl rfl rfl) t2.2,tb,tk,h.evs.iV oX o (CV h.nd 6 3 4 rfl rfl rfl),h.wt,h.now.iV oX,h.nd,h.wL.iV o λy hy=>?_⟩,oX⟩
 rcases aJ.mp hy with rfl|hy
 . exact⟨_,tb.ob⟩
 . rw[ak.mp hy];obtain⟨as,z,_⟩:=tb.nw;exact⟨_,z⟩
theorem LQ(hbn:s.block=none)(k:Rk):Rc28.blockDone s k=match U true s.table k.bytes with
 |none=>Rc28.die s 9
 |some (l,t)=>if 65536<(l.map Rc28.weight).sum then Rc28.die {s with table:=t} 11 else match Rc28.find {s with table:=t} k.id with
  |some y=>Bt {s with table:=t} k l y
  |none=>if k.id<=s.highest then Rc28.fail {s with table:=t} k.id 5 else begun {s with table:=t} k l:=by
 cases s;simp only at hbn;subst hbn;rfl
inductive BkP(A:Ad)(X:List Addr)(H:Hp)(B:Addr)(k:Rk):Prop
 |mk (dB:_) (rb:_) (_:H B=some (.ins A.Block dB (zj rb))) (_:rb.stream=(k.id:Nat)) (_:rb.last=k.last) (_:rb.lC=k.self_) (_:B∉X) (_:H rb.qQ=some (.cM (bv k.bytes))) (_:rb.qQ∉X)
inductive aix(A:Ad)(vs:List V)(H:Hp)(Q:VK)(_:XK):Prop
 |mk (L dL:Addr) (r:gM) (x:Lx) (s:Ra) (B:Addr) (k:Rk) (_:vs=[.ref L,.ref B]) (_:gb A H L dL r x s) (_:s.block=none) (_:Rm s) (_:BkP A (foot L r x) H B k) (_:k.bytes.length<=100000) (_:wJ A L dL (foot L r x) H (Rc28.blockDone s k) Q)
def YK(F:j5 K "end_block" "end_block" HW f fd)(T:Txt K mg A)(W:Wb mg A base)(RK:jQ P w K mg base "unpack" (Iw P w A.eO) 8 ["block","table"] (Uw A))(lM:jQ P w K mg base "weight_of_headers" dW 2 ["headers"] (Je A))(uD:jQ P w K mg base "end_with_trailers" dW 5 ["line","block","headers"] (adS A))(dC:jQ P w K mg base "fail_stream" dW 3 ["line","number","code"] (yN A))(zA:jQ P w K mg base "begin_stream" dW 6 ["line","block","headers"] (adH A)):dR P w K mg base dW 9 f fd ["line","block"] (aix A):=by
 refine F.mZ (N:=["line","block","headers"]) (λ_ _ _ s H _ _ _ hr h nd0=>?_)
 . obtain⟨L,dL,r,x,s,B,k,rfl,h,hbn,rm,bk,hkl,q⟩:=h;have hu:=zO hr;obtain⟨Bc,newId,initId,bmB,_,O,hbm⟩:=W.ex;refine⟨_,(ao (ajA (tb:=λE'=>agH (uc (Uw A) [] E' (fG (tFv K 1 "packed") (fG (tFv K 0 "table") oO))) (Bp 2)) O hbm rfl rfl (λ_=>rfl) rfl rfl (by rfl) (λxe pn E' hx=>aG (cB (i:=2) nd0 rfl (Or.inl rfl) (xU RK hr.lw hx (aa (aaO 1 rfl) (aa (aaO 0 rfl) aK))))) (λe=>aG (aZ (cR T.NK))))
    (ao (cV (bF qF (aU lM hr.lw (aa (pv 2) aK)) (cR T.Gk) (bO _)) (aG (aZ (cR T.Sd))) bC)
    (ao (cV (O3 (Y5 hu (aaO 1 rfl) (aaO 0 rfl))) (aG (dz (aU uD hr.lw (aa (pv 0) (aa (pv 1) (aa (pv 2) aK)))))) (aG (cV (bF yR (aaO 1 rfl) (aaO 0 rfl) (bO _)) (aG (dz (aU dC hr.lw (aa (pv 0) (aa (aaO 1 rfl) (aa (cR T.vm) aK)))))) (aG (dz (aU zA hr.lw (aa (pv 0) (aa (pv 1) (aa (pv 2) aK)))))))))
    (aG (aZ (cR T.oA)))))),?_⟩
   obtain⟨dB,rb,b1,b2,b3,b4,b5,b6,b7⟩:=id bk;refine⟨rfl,b1,T.lD,T.v8,yq,rfl,h.ob,T.cN,T.Eh,JS,foot L r x,rb.qQ,r.table,x.dt,x.nf,x.fx,k.bytes,s.table,rfl,b6,hkl,h.yd,h.Dr,h.wL,b7,λhs T' l H1 hU tb1 hl1 hd1 o1=>?_,λhU H1 o1 σ'=>?_⟩
   . have hu2:=aki _ true s.table k.bytes hs T' (aH _) h.Dr hU;obtain⟨h1,oX1⟩:=h.ajW o1 tb1 hu2.1;have hlX:l∉foot L r x:=h.wL.out hl1;have hd:oR A (foot L r x) H1 l hs:=hd1.BL λy hy=>.inl (.tail _ hy);have st1:gf (foot L r x) H (foot L r x) H1:=gf.of oX1 λ_ hy=>hy;have e0:Rc28.blockDone s k=if 65536<(hs.map Rc28.weight).sum then Rc28.die {s with table:=T'} 11 else match Rc28.find {s with table:=T'} k.id with
      |some y=>Bt {s with table:=T'} k hs y
      |none=>if k.id<=s.highest then Rc28.fail {s with table:=T'} k.id 5 else begun {s with table:=T'} k hs:=by
      rw[LQ hbn,hU]
     rw[e0]at q;generalize hs1:({s with table:=T'}:Ra)=s1 at h1 q;have ehi:s1.highest=s.highest:=by rw[<-hs1]
     have rm1:Rm s1:=by rw[<-hs1];exact⟨rm.out,rm.evs⟩
     rw[<-ehi]at q;clear hs1;refine⟨_,rfl,foot L r x,l,hs,rfl,hd,by omega,λH2 sm2=>⟨_,_,rfl,rfl,_,rfl,?_⟩⟩;have h2:=h1.same sm2;have st2:gf (foot L r x) H (foot L r x) H2:=st1.trans (gf.same sm2 gf.refl);have bk2:BkB A (foot L r x) H2 B k:=BkB.Rz ⟨dB,rb,b1,b2,b3,b4,b5⟩ st2;have hd2:=hd.same sm2;obtain⟨dB2,rb2,c1,c2,c3,c4,c5⟩:=id bk2;have etw:tw hs=(hs.map Rc28.weight).sum:=rfl;by_cases hw:65536<(hs.map Rc28.weight).sum
     . rw[show decide (((tw hs:Nat):Int)>65536)=true from az (by rw[etw];omega)]
       rw[if_pos hw]at q;exact cQ (q.Wm (c:=11) rfl (by decide) h2.pd (st2.trans (gf.of gm.refl qK)))
     . rw[show decide (((tw hs:Nat):Int)>65536)=false from aq (by rw[etw];omega)]
       rw[if_neg hw]at q;refine cY ⟨rfl,c1,T.lD,T.jm,jl,rfl,h2.ob,T.cN,T.eV,eN,r.streams,_,rfl,by rw[c2];exact uY.k (k:=.inl (k.id:Int)) h2.tZ.ob,_,rfl,?_⟩
       rcases RC h2.tZ.st k.id with⟨v1,v2⟩|⟨y,a,v1,v2,_⟩
       . rw[v2];rw[show Rc28.find s1 k.id=none from v1]at q;dsimp only at q;refine cY ⟨rfl,c1,T.lD,T.jm,jl,rfl,h2.ob,T.cN,T.tK,yr,_,_,rfl,rfl,_,rfl,?_⟩;rw[c2,h2.highest];by_cases hh:k.id<=s1.highest
         . rw[show decide (((k.id:Nat):Int)<=((s1.highest:Nat):Int))=true from az (by omega)];rw[if_pos hh]at q;refine cQ ⟨_,rfl,rfl,c1,T.lD,T.jm,jl,L,dL,r,x,s1,k.id,5,by rw[c2];rfl,h2,by have:=rm1.out;omega,λx' H' h' hX o'=>?_⟩
           exact q.ok (r':=r) (x':=x') h' (st2.trans (gf.of o' hX))
         . rw[show decide (((k.id:Nat):Int)<=((s1.highest:Nat):Int))=false from aq (by omega)];rw[if_neg hh]at q;refine cY ⟨_,rfl,_,rfl,_,rfl,L,dL,r,x,s1,B,l,k,hs,rfl,h2,rm1,bk2,hd2,hlX,by omega,v1,λr' x' H' h' st'=>?_⟩;exact q.ok h' (st2.trans st')
       . rw[v2];rw[show Rc28.find s1 k.id=some y from v1]at q;dsimp only at q;refine cQ ⟨_,rfl,_,rfl,_,rfl,L,dL,r,x,s1,B,l,k,hs,y,rfl,h2,rm1,bk2,hd2,hlX,by omega,v1,λr' x' H' h' st'=>?_⟩;exact q.ok h' (st2.trans st')
   . have hY:∀y∈[r.table,x.nf],y∈foot L r x:=λy hy=>by
      rcases aJ.mp hy with rfl|hy
      . exact cC (j:=3) rfl
      . rw[ak.mp hy];exact cC (j:=4) rfl
     refine q.Wm (c:=9) (s':=s) (r':=r) ?_ (by decide) ?_ (gf.of (o1.mono hY) qK)
     . rw[LQ hbn,hU]
     . exact h.pd' o1 hY (o1 _ _ h.ob (CV h.nd 0 3 4 rfl rfl rfl)) (CV h.nd 5 3 4 rfl rfl rfl) (CV h.nd 6 3 4 rfl rfl rfl)
def Rj(ha:a∈x.bs):a∈foot L r x:=by
 unfold foot;exact .tail _ (.tail _ (.tail _ (.tail _ (.tail _ (.tail _ (.tail _ (bY _ ha)))))))
def gb.Zb(h:gb A H L dL r x s){v:V}{bs':List Addr}{b':Option Rk}(o:gm Y H H')(hY:∀y∈Y,y=L\/y∈x.bs)(e:H' L=some (.ins A.dF dL (bI {r with gC:=v})))(hb:abv A H' v bs' b')(g:∀y∈foot L r {x with bs:=bs'},y∈foot L r x\/H y=none)(nd':(foot L r {x with bs:=bs'}).Nodup)(lv:∀y∈bs',∃u,H' y=some u)(hYf:∀y∈Y,y∈foot L r {x with bs:=bs'}):gb A H' L dL {r with gC:=v} {x with bs:=bs'} {s with block:=b'}/\gf (foot L r x) H (foot L {r with gC:=v} {x with bs:=bs'}) H':=by
 have hYX:∀y∈Y,y∈foot L r x:=λy hy=>by
  rcases hY y hy with rfl|z
  . exact cC (j:=0) rfl
  . exact Rj z
 have nY:∀{j:Nat}{b:Addr},(foot L r x)[j]? = some b->j≠0->j<7->b∉Y:=fun {j b} hj h0 h7 m=>by
  rcases hY b m with z|z
  . exact yQ h.nd hj (j:=0) rfl h0 z
  . exact lN h.nd (bY _ z) hj h7 rfl
 have nA:∀a∈x.as,a∉Y:=λa ha m=>by
  rcases hY a m with z|z
  . exact Te h.nd (j:=0) rfl (by decide) (by rw[<-z];exact ha)
  . exact ac2 h.nd z ha rfl
 have oX:=o.mono hYX;have o':gm (foot L r {x with bs:=bs'}) H H':=o.mono hYf;have ev:∀{b:Addr}{u:Option Rv},qI A (foot L r x) H b u->qI A (foot L r {x with bs:=bs'}) H' b u:=λz=>(z.BL g).iV o';have hd:∀{b:Addr}{u:Rh},sU A (foot L r x) H b u->sU A (foot L r {x with bs:=bs'}) H' b u:=λz=>(z.BL g).iV o';refine⟨⟨e,h.start,o _ _ h.part (nY (j:=1) rfl (by decide) (by decide)),h.settled,h.failed,h.dead,h.highest,h.window,h.first,h.said,o _ _ h.out (nY (j:=5) rfl (by decide) (by decide)),hb,h.tZ.iV o (nY (j:=2) rfl (by decide) (by decide)) nA,?_,h.Dr,?_,h.wt,ev h.now,nd',λy hy=>?_⟩,oX,g⟩
 . obtain⟨as,h1,h2⟩:=h.yd.nw;obtain⟨fs,h3,h4⟩:=h.yd.fi;exact⟨o _ _ h.yd.ob (nY (j:=3) rfl (by decide) (by decide)),⟨as,o _ _ h1 (nY (j:=4) rfl (by decide) (by decide)),bN h2 λ_ _ z=>hd z⟩,⟨fs,oX _ _ h3 h.yd.fX,bN h4 λ_ _ z=>hd z⟩,CW h3 h.yd.fX g,cC (j:=3) rfl,cC (j:=4) rfl⟩
 . obtain⟨es,h1,h2⟩:=h.evs;exact⟨es,o _ _ h1 (nY (j:=6) rfl (by decide) (by decide)),bN h2 λ_ _ z=>ev z⟩
 . by_cases hbs:y∈bs'
   . exact lv y hbs
   . have hyX:y∈foot L r x:=by
      change y∈foot L r {x with bs:=bs'} at hy;unfold foot at hy ⊢;simp only[aJ,dY]at hy ⊢;rcases hy with z|z|z|z|z|z|z|z|z
      . exact .inl z
      . exact .inr (.inl z)
      . exact .inr (.inr (.inl z))
      . exact .inr (.inr (.inr (.inl z)))
      . exact .inr (.inr (.inr (.inr (.inl z))))
      . exact .inr (.inr (.inr (.inr (.inr (.inl z)))))
      . exact .inr (.inr (.inr (.inr (.inr (.inr (.inl z))))))
      . exact absurd z hbs
      . exact .inr (.inr (.inr (.inr (.inr (.inr (.inr (.inr z)))))))
     by_cases hyY:y∈Y
     . rcases hY y hyY with rfl|z
       . exact⟨_,e⟩
       . exfalso;have hyf:=hYf y hyY;unfold foot at hyf;simp only[aJ,dY]at hyf;have nb:∀{j:Nat}{b:Addr},(foot L r x)[j]? = some b->j<7->y≠b:=λhj h7=>lN h.nd (bY _ z) hj h7;rcases hyf with q|q|q|q|q|q|q|q|q
         . exact nb (j:=0) rfl (by decide) q
         . exact nb (j:=1) rfl (by decide) q
         . exact nb (j:=2) rfl (by decide) q
         . exact nb (j:=3) rfl (by decide) q
         . exact nb (j:=4) rfl (by decide) q
         . exact nb (j:=5) rfl (by decide) q
         . exact nb (j:=6) rfl (by decide) q
         . exact hbs q
         . exact ac2 h.nd z q rfl
     . obtain⟨u,hu⟩:=h.wL y hyX;exact⟨u,o _ _ hu hyY⟩
def Wx:List.Sublist (foot L r {x with bs:=[]}) (foot L r x):=by
 unfold foot;exact .cons₂ _ (.cons₂ _ (.cons₂ _ (.cons₂ _ (.cons₂ _ (.cons₂ _ (.cons₂ _ (List.sublist_append_right _ _)))))))
def afb(nd:(foot L r x).Nodup)(ha:a∈x.bs):a∉foot L r {x with bs:=[]}:=λhy=>by
 unfold foot at hy;simp only[aJ,dY,cX,false_or]at hy;have nb:∀{j:Nat}{b:Addr},(foot L r x)[j]? = some b->j<7->a≠b:=λhj h7=>lN nd (bY _ ha) hj h7;rcases hy with q|q|q|q|q|q|q|q
 . exact nb (j:=0) rfl (by decide) q
 . exact nb (j:=1) rfl (by decide) q
 . exact nb (j:=2) rfl (by decide) q
 . exact nb (j:=3) rfl (by decide) q
 . exact nb (j:=4) rfl (by decide) q
 . exact nb (j:=5) rfl (by decide) q
 . exact nb (j:=6) rfl (by decide) q
 . exact ac2 nd ha q rfl
def added(s:Ra)(k:Rk)(b:Rb)(whole:Bool):Ra:=
 if 65536<(k.bytes++b).length then Rc28.die s 11 else if whole=true then Rc28.blockDone s {k with bytes:=k.bytes++b} else {s with block:=some {k with bytes:=k.bytes++b}}
inductive adF(A:Ad)(vs:List V)(H:Hp)(Q:VK)(_:XK):Prop
 |mk (L dL:Addr) (r:gM) (x:Lx) (s:Ra) (p:Addr) (k:Rk) (b:Rb) (whole:Bool) (_:vs=[.ref L,.ref p,.bl whole]) (_:gb A H L dL r x s) (_:s.block=some k) (_:Rm s) (_:H p=some (.cM (bv b))) (_:p∉foot L r x) (_:k.bytes.length<=70000) (_:b.length<=30000) (_:wJ A L dL (foot L r x) H (added s k b whole) Q)
def QM(F:j5 K "add_to_block" "add_to_block" z7 f fd)(T:Txt K mg A)(GC:jQ P w K mg base "end_block" dW 9 ["line","block"] (aix A)):dR P w K mg base dW 10 f fd ["line","packed","whole"] (adF A):=by
 refine F.mZ (N:=["line","packed","whole","block"]) (λ_ _ _ s H _ _ _ hr h nd0=>?_)
 . obtain⟨L,dL,r,x,s,p,k,b,whole,rfl,h,hbk,rm,hp,hpX,hk,hbl,q⟩:=h;refine⟨_,(ao (cB (i:=3) nd0 rfl (Or.inl rfl) (aaO 0 rfl))
    (ao (dz (uR bB fU fW vR (aaO 3 rfl) (aa (pv 1) aK)))
    (ao (cV (bF qF (bV bc (by rfl) T.gO aO (aa (aaO 3 rfl) aK)) (cR T.Kg) (bO _)) (aG (aZ (cR T.Sd))) bC)
    (ao (cV (rY (iB (pv 2))) (aG (aZ (cR T.oA))) bC)
    (ao (abu 0 yu rfl)
    (aG (aZ (aU GC hr.lw (aa (pv 0) (aa (pv 3) aK)))))))))),?_⟩
   have hblk:=h.Gj;rw[hbk]at hblk;obtain⟨B,dB,rb,e1,e2,e3,e4,e5,e6,e7⟩:=hblk;have hBm:B∈x.bs:=by rw[e2];exact .head _
   have hPm:rb.qQ∈x.bs:=by rw[e2];exact .tail _ (.head _)
   have hBP:B≠rb.qQ:=CT e3 e7 (by intro z;cases z)
   refine⟨rfl,h.ob,T.cN,T.lE,qM,?_⟩;rw[e1];refine⟨rfl,e3,T.lD,T.v8,yq,.inl ⟨rfl,_,fH.of e7⟩,_,rfl,_,_,_,_,rfl,rfl,e7,hp,by rw[cA,cA,bw];omega,?_⟩
   rw[<-uH];have o1:gm [rb.qQ] H (L2.bM H rb.qQ (.cM (bv (k.bytes++b)))):=gm.bM (.head _);have u1:L2.bM H rb.qQ (.cM (bv (k.bytes++b))) rb.qQ=some (.cM (bv (k.bytes++b))):=aB;generalize L2.bM H rb.qQ (.cM (bv (k.bytes++b)))=H1 at o1 u1;have hLP:L∉[rb.qQ]:=λm=>lN h.nd (bY _ hPm) (j:=0) rfl (by decide) (ak.mp m).symm;have eL1:=o1 _ _ h.ob hLP;have eB1:=o1 _ _ e3 λm=>hBP (ak.mp m);have r0:({r with gC:=r.gC}:gM)=r:=rfl;obtain⟨h1,st1⟩:=h.Zb (Y:=[rb.qQ]) (v:=r.gC) (bs':=x.bs) (b':=some {k with bytes:=k.bytes++b}) o1 (λy hy=>by rw[ak.mp hy];exact .inr hPm) eL1 ⟨B,dB,rb,e1,e2,eB1,e4,e5,e6,u1⟩ (λy hy=>.inl hy) h.nd
    (λy hy=>by
      rw[e2]at hy;rcases aJ.mp hy with rfl|hy
      . exact⟨_,eB1⟩
      . rw[ak.mp hy];exact⟨_,u1⟩) (λy hy=>by rw[ak.mp hy];exact Rj hPm)
   refine⟨rfl,eB1,T.lD,T.v8,yq,_,_,rfl,.inl (fH.of u1),_,_,rfl,rfl,_,rfl,?_⟩;rw[cA];unfold added at q;by_cases h65:65536<(k.bytes++b).length
   . rw[show decide ((((k.bytes++b).length:Nat):Int)>65536)=true from az (by omega)];rw[if_pos h65]at q;refine cQ (q.Wm (c:=11) rfl (by decide) (h.pd' o1 (λy hy=>by rw[ak.mp hy];exact Rj hPm) eL1 ?_ ?_) (gf.of (o1.mono λy hy=>by rw[ak.mp hy];exact Rj hPm) qK))
     . exact λm=>lN h.nd (bY _ hPm) (j:=5) rfl (by decide) (ak.mp m).symm
     . exact λm=>lN h.nd (bY _ hPm) (j:=6) rfl (by decide) (ak.mp m).symm
   . rw[show decide ((((k.bytes++b).length:Nat):Int)>65536)=false from aq (by omega)];rw[if_neg h65]at q;refine cY ⟨_,rfl,_,rfl,?_⟩
     cases whole with
     |false=>
      refine cQ ?_;exact q.ok h1 st1
     |true=>
      rw[if_pos rfl]at q;refine cY ⟨rfl,eL1,T.cN,T.lE,qg,?_⟩;rw[zW];have o2:gm [L] H1 (L2.bM H1 L (.ins A.dF dL (bI {r with gC:=.non}))):=gm.bM (.head _);obtain⟨h2,st2⟩:=h1.Zb (Y:=[L]) (v:=.non) (bs':=[]) (b':=none) o2 (λy hy=>.inl (ak.mp hy)) aB ⟨rfl,rfl⟩ (λy hy=>.inl (Wx.mem hy)) (List.Sublist.nodup Wx h1.nd) (λy hy=>nomatch hy) (λy hy=>by rw[ak.mp hy];exact cC (j:=0) rfl)
      have hLB:B∉[L]:=λm=>lN h.nd (bY _ hBm) (j:=0) rfl (by decide) (ak.mp m);have hLP':rb.qQ∉[L]:=λm=>lN h.nd (bY _ hPm) (j:=0) rfl (by decide) (ak.mp m);have eB2:=o2 _ _ eB1 hLB;have eP2:=o2 _ _ u1 hLP';have st:=st1.trans st2;generalize L2.bM H1 L (.ins A.dF dL (bI {r with gC:=.non}))=H2 at h2 st2 eB2 eP2 st;refine⟨_,rfl,_,rfl,L,dL,_,_,_,B,{k with bytes:=k.bytes++b},rfl,h2,rfl,⟨rm.out,rm.evs⟩,⟨dB,rb,eB2,e4,e5,e6,afb h1.nd hBm,eP2,afb h1.nd hPm⟩,by show (k.bytes++b).length<=100000;omega,?_⟩
      exact⟨λr' x' H' h' st'=>q.ok h' (st.trans st'),λc s' r' H' e hc h' st'=>q.Wm e hc h' (st.trans st')⟩
inductive akZ(A:Ad)(vs:List V)(H:Hp)(Q:VK)(_:XK):Prop
 |mk (L dL:Addr) (r:gM) (x:Lx) (s:Ra) (fr:Addr) (ty f id:Nat) (bd:Addr) (b:Rb) (k:Rk) (_:vs=[.ref L,.ref fr]) (_:gb A H L dL r x s) (_:s.block=some k) (_:k.bytes.length<=70000) (_:Rm s) (_:FrB A (foot L r x) H fr ty f id bd b) (_:wJ A L dL (foot L r x) H (if ty≠9\/id≠k.id then Rc28.die s 1 else added s k b (decide (f / 4%2=1))) Q)
def Jx(F:j5 K "go_on_with_block" "go_on_with_block" vB f fd)(T:Txt K mg A)(dw:rC P w K mg base A.sZ "has_set" dW 1 ["self","bit"] (uV A))(qi:jQ P w K mg base "add_to_block" dW 10 ["line","packed","whole"] (adF A)):dR P w K mg base dW 11 f fd ["line","frame"] (akZ A):=by
 refine F.mZ (N:=["line","frame"]) (λ_ _ _ s _ _ _ _ hr h _=>?_)
 . obtain⟨L,dL,r,x,s,fr,ty,f,id,bd,b,k,rfl,h,hbk,hkl,rm,B,q⟩:=h;refine⟨_,(ao (cV (uB (bF uA (aaO 1 rfl) (cR T.LR) (bO _)) (rZ (bF uA (aaO 1 rfl) (aQ (aaO 0 rfl) rfl) (bO _)))).pt (aG (aZ (cR T.gj))) bC)
    (aG (aZ (aU qi hr.lw (aa (pv 0) (aa (aaO 1 rfl) (aa (nJ T.cO (pv 1) dw hr.lw lU (aa (cR T.Yc) aK)) aK))))))),?_⟩
   obtain⟨dx,hfr⟩:=B.ob;have hblk:=h.Gj;rw[hbk]at hblk;obtain⟨Bk,dB,rb,e1,e2,e3,e4,_⟩:=hblk;refine⟨rfl,hfr,T.cO,T.qO,uv,rfl,_,rfl,?_⟩;rw[show decide (V.int (ty:Int)=V.int 9)=decide (ty=9) from Jt _ 9];by_cases h9:ty=9
   . rw[az h9];refine cY ⟨rfl,hfr,T.cO,T.cP,cT,rfl,h.ob,T.cN,T.lE,qM,Bk,_,_,_,_,e1,e3,T.lD,T.jm,jl,rfl,_,rfl,?_⟩;rw[e4,Jt];by_cases Jr:id=k.id
     . rw[az Jr];rw[if_neg (by simp[h9,Jr])]at q;exact cY ⟨_,rfl,rfl,hfr,T.cO,T.eZ,fD,_,rfl,_,_,_,rfl,hfr,kh,fr,ty,f,id,4,bd,rfl,⟨dx,hfr⟩,B.hf,.inr (.inl rfl),L,dL,r,x,s,bd,k,b,_,rfl,h,hbk,rm,B.lb,B.nb,hkl,B.hl,q⟩
     . rw[aq Jr];rw[if_pos (.inr Jr)]at q;exact cQ (q.die (c:=1) h rfl (by decide))
   . rw[aq h9];rw[if_pos (.inl h9)]at q;exact cQ (cQ (q.die (c:=1) h rfl (by decide)))
inductive ak0(A:Ad)(on:Ra->Nat->Nat->Rb->Ra)(vs:List V)(H:Hp)(Q:VK)(_:XK):Prop
 |mk (L dL:Addr) (r:gM) (x:Lx) (s:Ra) (fr:Addr) (k f id:Nat) (bd:Addr) (b:Rb) (_:vs=[.ref L,.ref fr]) (_:gb A H L dL r x s) (_:s.block=none) (_:Rm s) (_:FrB A (foot L r x) H fr k f id bd b) (_:wJ A L dL (foot L r x) H (on s f id b) Q)
def afB{B p:Addr}(hx:x.bs=[]):∀y∈foot L r {x with bs:=[B,p]},y∈foot L r x\/y=B\/y=p:=λy hy=>by
 unfold foot at hy ⊢;simp only[aJ,dY,cX,or_false]at hy ⊢;rcases hy with z|z|z|z|z|z|z|(z|z)|z
 . exact .inl (.inl z)
 . exact .inl (.inr (.inl z))
 . exact .inl (.inr (.inr (.inl z)))
 . exact .inl (.inr (.inr (.inr (.inl z))))
 . exact .inl (.inr (.inr (.inr (.inr (.inl z)))))
 . exact .inl (.inr (.inr (.inr (.inr (.inr (.inl z))))))
 . exact .inl (.inr (.inr (.inr (.inr (.inr (.inr (.inl z)))))))
 . exact .inr (.inl z)
 . exact .inr (.inr z)
 . exact .inl (.inr (.inr (.inr (.inr (.inr (.inr (.inr (.inr z))))))))
def ajp(hx:x.bs=[])(nd:(foot L r x).Nodup)(hB:B∉foot L r x)(hp:p∉foot L r x)(hne:B≠p):(foot L r {x with bs:=[B,p]}).Nodup:=by
 have e:(foot L r {x with bs:=[B,p]}).Perm (B::p::foot L r x):=by
  unfold foot;rw[hx,mD];simp only;refine List.perm_iff_count.mpr λa=>?_;simp only[List.count_cons,List.count_append,List.count_nil];omega
 rw[e.nodup_iff];exact dZ.mpr ⟨λm=>by
  rcases aJ.mp m with z|z
  . exact hne z
  . exact hB z,dZ.mpr ⟨hp,nd⟩⟩
def QV(F:j5 K "headers_came" "headers_came" Ab f fd)(T:Txt K mg A)(m8:jQ P w K mg base "without_padding" dW 2 ["frame"] (agA A))(dw:rC P w K mg base A.sZ "has_set" dW 1 ["self","bit"] (uV A))(dM:jQ P w K mg base "number_without_top_bit" dW 2 ["row"] (abj K))(Dt:DQ P w K mg base "Block" A.Block 1 ["self","stream","depends_on_itself","last"] (Ij A))(qi:jQ P w K mg base "add_to_block" dW 10 ["line","packed","whole"] (adF A)):dR P w K mg base dW 11 f fd ["line","frame"] (ak0 A λs f id b=>Rc28.onHeaders s f id b):=by
 refine F.mZ (N:=["line","frame","body","depends_on_itself"]) (λ_ _ _ s H _ Q _ hr h nd0=>?_)
 . obtain⟨L,dL,r,x,s,fr,k,f,id,bd,b,rfl,h,hbn,rm,B,q⟩:=h;refine⟨_,(ao (cB (i:=2) nd0 rfl (Or.inl rfl) (aU m8 hr.lw (aa (pv 1) aK)))
    (ao (cV (uB (bF pI (iW TQ (aaO 1 rfl) bx) bx (bO _)) (rZ (bF OJ (pv 2) yu (bO _)))).pt (aG (aZ (cR T.gj))) bC)
    (ao (cB (i:=3) nd0 rfl (Or.inl rfl) qG)
    (ao (cV (iB (nJ T.cO (pv 1) dw hr.lw lU (aa (cR T.QH) aK))) (ao (cV (bF yS (bV bc (by rfl) T.gO aO (aa (pv 2) aK)) bx (bO _)) (aG (aZ (cR T.lB))) bC)
    (ao (cB (i:=3) nd0 rfl (Or.inl rfl) (mL pI (aU dM hr.lw (aa (jz lG (pv 2) uW (iu bx)) aK)) (aaO 1 rfl) (bO _)))
    (aG (cB (i:=2) nd0 rfl (Or.inl rfl) (jz lG (pv 2) (iu bx) uW))))) bC)
    (ao (abu 0 (qt Dt hr.lw (aa (aaO 1 rfl) (aa (pv 3) (aa (nJ T.cO (pv 1) dw hr.lw lU (aa (cR T.X8) aK)) aK)))) rfl)
    (aG (aZ (aU qi hr.lw (aa (pv 0) (aa (pv 2) (aa (nJ T.cO (pv 1) dw hr.lw lU (aa (cR T.Yc) aK)) aK))))))))))),?_⟩
   obtain⟨dx,hfr⟩:=B.ob;have hblk:=h.Gj;rw[hbn]at hblk;obtain⟨eb1,eb2⟩:=hblk;have em:decide (V.int ((id:Int)%2)=V.int 0)=decide (id%2=0):=by rw[bR];simp only[bK,V.int.injEq];omega
   refine⟨_,rfl,fr,k,f,id,bd,b,rfl,⟨dx,hfr⟩,B.hf,B.lb,λd p H1 hd hp hp1 sm1=>?_,λhd=>?_⟩
   . have h1:=h.same sm1;have B1:FrB A (foot L r x) H1 fr k f id bd b:=B.Rz (gf.same sm1 gf.refl);have hpX:p∉foot L r x:=by
      rcases hp with rfl|hp
      . exact B.nb
      . exact h.wL.out hp
     have hdl:d.length<=b.length:=by
      unfold Rc28.unpadded at hd;split at hd
      . cases hd;exact aH _
      . split at hd
        . cases hd
        . split at hd
          . cases hd
          . cases hd;rw[aY,bj];omega
     obtain⟨dx1,hfr1⟩:=B1.ob;refine⟨rfl,hfr1,T.cO,T.cP,cT,_,_,rfl,rfl,(show (0:Int)<2 by decide),rfl,_,rfl,?_⟩;rw[em];by_cases h2:id%2=0
     . rw[az h2];refine cQ (cQ (q.Wm (c:=1) (s':=s) ?_ (by decide) h1.pd (gf.same sm1 (gf.of gm.refl qK))));unfold Rc28.onHeaders;rw[if_pos (.inr h2)]
     . rw[aq h2];refine cY ⟨_,rfl,rfl,_,rfl,cY ?_⟩;have e0:Rc28.onHeaders s f id b=if decide (f / 32%2=1)=true/\d.length<5 then Rc28.die s 6 else
        if f / 4%2=1 then Rc28.blockDone s ⟨id,decide (f%2=1),decide (f / 32%2=1)&&Rc28.num (d.take 4)%2^31==id,if decide (f / 32%2=1)=true then d.drop 5 else d⟩
        else {s with block:=some ⟨id,decide (f%2=1),decide (f / 32%2=1)&&Rc28.num (d.take 4)%2^31==id,if decide (f / 32%2=1)=true then d.drop 5 else d⟩}:=by
        unfold Rc28.onHeaders;rw[if_neg (by omega),hd]
       rw[e0]at q;have fin:∀(se:Bool)(d':Rb)(p':Addr)(H2:Hp),cZ H H2->H2 p'=some (.cM (bv d'))->p'∉foot L r x->d'.length<=30000->wJ A L dL (foot L r x) H (if f / 4%2=1 then Rc28.blockDone s ⟨id,decide (f%2=1),se,d'⟩ else {s with block:=some ⟨id,decide (f%2=1),se,d'⟩}) Q ->
        (Dq (sFv K 0 (Xa A.Block (Ij A) [] E0 (fG (tFv K 1 "stream") (fG (iw 3) (fG (Uy A.sZ "has_set" (uV A) [] E0 (iw 1) (fG (tC (.int 1)) oO)) oO)))) "open_block")
          (Dn (uc (adF A) [] E0 (fG (iw 0) (fG (iw 2) (fG (Uy A.sZ "has_set" (uV A) [] E0 (iw 1) (fG (tC (.int 4)) oO)) oO)))))) {nx:=λ_ H'=>Q .non H',rt:=Q} [some (.ref L),some (.ref fr),some (.ref p'),some (.bl se)] H2:=by
        intro se d' p' H2 sm2 hp2 hp2X hdl' q;have h2':=h.same sm2;have hfr2:=sm2 _ _ hfr;refine⟨rfl,hfr2,T.cO,T.cP,cT,_,rfl,_,rfl,_,_,_,rfl,hfr2,kh,fr,k,f,id,1,bd,rfl,⟨dx,hfr2⟩,B.hf,.inl rfl,λBk dB hB hdB hne=>⟨Bk,dB,_,se,_,rfl,aB,λpk H3 hpk e1 e2 bt=>⟨rfl,?_⟩⟩⟩;have hpkB:Bk≠pk:=aD aB hpk;rw[aM (Ne.symm hpkB)]at hpk;have hpkd:dB≠pk:=aD aB hpk;rw[aM (Ne.symm hpkd)]at hpk;have sm3:cZ H2 H3:=λc u e=>bt c u (by rw[aM (aD e hB),aM (aD e hdB)];exact e) (aD e hB)
        have eL3:=sm3 _ _ h2'.ob;refine⟨rfl,eL3,T.cN,T.lE,qg,?_⟩;rw[zW];have o4:gm [L] H2 (L2.bM H3 L (.ins A.dF dL (bI {r with gC:=.ref Bk}))):=(cZ.iV sm3).trans (gm.bM (.head _));have o34:gm [L] H3 (L2.bM H3 L (.ins A.dF dL (bI {r with gC:=.ref Bk}))):=gm.bM (.head _);have eL4:L2.bM H3 L (.ins A.dF dL (bI {r with gC:=.ref Bk})) L=some (.ins A.dF dL (bI {r with gC:=.ref Bk})):=aB;have nBL:Bk∉[L]:=λm=>(aD h2'.ob hB) (ak.mp m).symm;have npL:pk∉[L]:=λm=>(aD h2'.ob hpk) (ak.mp m).symm;have eB4:=o34 _ _ e1 nBL;have eP4:=o34 _ _ e2 npL;generalize L2.bM H3 L (.ins A.dF dL (bI {r with gC:=.ref Bk}))=H4 at o4 o34 eL4 eB4 eP4;obtain⟨h4,st4⟩:=h2'.Zb (Y:=[L]) (v:=.ref Bk) (bs':=[Bk,pk]) (b':=some ⟨id,decide (f%2=1),se,[]⟩) o4 (λy hy=>.inl (ak.mp hy)) eL4 ⟨Bk,dB,_,rfl,rfl,eB4,rfl,by rw[ue],rfl,eP4⟩
         (λy hy=>by
           rcases afB eb2 y hy with z|z|z
           . exact .inl z
           . rw[z];exact .inr hB
           . rw[z];exact .inr hpk) (ajp eb2 h2'.nd (h2'.wL.out hB) (h2'.wL.out hpk) hpkB)
         (λy hy=>by
           rcases aJ.mp hy with rfl|hy
           . exact⟨_,eB4⟩
           . rw[ak.mp hy];exact⟨_,eP4⟩) (λy hy=>by rw[ak.mp hy];exact cC (j:=0) rfl)
        have st:gf (foot L r x) H _ H4:=gf.same sm2 st4;obtain⟨hp4,hp4X⟩:=st4.out hp2 hp2X;have B4:=B.Rz st;obtain⟨dx4,hfr4⟩:=B4.ob;refine⟨_,rfl,_,rfl,_,rfl,_,_,_,rfl,hfr4,kh,fr,k,f,id,4,bd,rfl,⟨dx4,hfr4⟩,B.hf,.inr (.inl rfl),L,dL,_,_,_,p',⟨id,decide (f%2=1),se,[]⟩,d',_,rfl,h4,rfl,⟨rm.out,rm.evs⟩,hp4,hp4X,by show 0<=70000;omega,hdl',?_⟩
        have ea:added {s with block:=some ⟨id,decide (f%2=1),se,[]⟩} ⟨id,decide (f%2=1),se,[]⟩ d' (decide (f / 4%2=1))=if f / 4%2=1 then Rc28.blockDone s ⟨id,decide (f%2=1),se,d'⟩ else {s with block:=some ⟨id,decide (f%2=1),se,d'⟩}:=by
         unfold added;rw[if_neg (by show ¬65536<d'.length;omega)]
         by_cases h4:f / 4%2=1
         . rw[az h4,if_pos rfl,if_pos h4];rfl
         . rw[aq h4,if_neg (by simp),if_neg h4];rfl
        rw[<-ea]at q;exact⟨λr' x' H' h' st'=>q.ok h' (st.trans st'),λc s' r' H' e hc h' st'=>q.Wm e hc h' (st.trans st')⟩
       refine⟨_,rfl,_,_,_,rfl,hfr1,kh,fr,k,f,id,32,bd,rfl,⟨dx1,hfr1⟩,B.hf,.inr (.inr (.inr rfl)),_,rfl,?_⟩;have hbl:=B.hl;by_cases hpr:f / 32%2=1
       . rw[az hpr]at q ⊢;refine cQ ⟨_,rfl,_,_,rfl,.inl (fH.of hp1),_,_,rfl,rfl,_,rfl,?_⟩;rw[cA];by_cases h5:d.length<5
         . rw[show decide (((d.length:Nat):Int)<5)=true from az (by omega)];rw[if_pos ⟨rfl,h5⟩]at q;exact cQ (q.Wm (c:=6) (s':=s) rfl (by decide) h1.pd (gf.same sm1 (gf.of gm.refl qK)))
         . rw[show decide (((d.length:Nat):Int)<5)=false from aq (by omega)];rw[if_neg (λz=>h5 z.2)]at q;refine cY ⟨_,rfl,4,rfl,_,_,rfl,fH.of hp1,λp2 hp2=>?_⟩;have c1:sV (bv d) none (some 4)=bv (d.take 4):=by
            rw[show (some (4:Int))=some (((4:Nat):Int)) from rfl,NZ (by rw[cA];omega),pY]
           rw[c1];have sm2:cZ H1 (L2.bM H1 p2 (.cM (bv (d.take 4)))):=λc u e=>by rw[aM (aD e hp2)];exact e
           refine⟨p2,_,rfl,fH.of aB,by rw[aY];omega,?_⟩
           generalize L2.bM H1 p2 (.cM (bv (d.take 4)))=H2 at sm2;refine⟨rfl,sm2 _ _ hfr1,T.cO,T.cP,cT,rfl,?_⟩;rw[Jt];refine⟨_,rfl,5,rfl,_,_,rfl,fH.of (sm2 _ _ hp1),λp3 hp3=>?_⟩;have c2:sV (bv d) (some 5) none=bv (d.drop 5):=by
            rw[show (some (5:Int))=some (((5:Nat):Int)) from rfl,Hb (by rw[cA];omega),uq]
           rw[c2];have sm3:cZ H (L2.bM H2 p3 (.cM (bv (d.drop 5)))):=λc u e=>by
            have e':=sm2 _ _ (sm1 _ _ e);rw[aM (aD e' hp3)];exact e'
           have hp3X:p3∉foot L r x:=(h1.same sm2).wL.out hp3;refine fin _ (d.drop 5) p3 _ sm3 aB hp3X (by rw[bu];omega) ?_
           rw[fK,if_pos rfl,show (Rc28.num (d.take 4)%2^31==id)=decide (Rc28.num (d.take 4)%2^31=id) by rw[bR,je,bK]]at q;exact q
       . rw[aq hpr]at q ⊢;refine cY ?_;rw[if_neg (by simp),jd]at q;exact fin false d p H1 sm1 hp1 hpX (by omega) q
   . refine⟨rfl,hfr,T.cO,T.cP,cT,_,_,rfl,rfl,(show (0:Int)<2 by decide),rfl,_,rfl,?_⟩;rw[em];have e0:Rc28.onHeaders s f id b=Rc28.die s 1:=by
      unfold Rc28.onHeaders;by_cases h2:id=0\/id%2=0
      . rw[if_pos h2]
      . rw[if_neg h2,hd]
     cases decide (id%2=0) with
     |true=>exact cQ (cQ (q.die (c:=1) h e0 (by decide)))
     |false=>exact cY ⟨_,rfl,rfl,_,rfl,cQ (q.die (c:=1) h e0 (by decide))⟩
def gb.ajI(h:gb A H L dL r x s)(o:gm [L] H H')(e:H' L=some (.ins A.dF dL (bI {r with dX:=true}))):gb A H' L dL {r with dX:=true} x {s with settled:=true}:=
 h.z6 (o.mono λz hz=>by rw[ak.mp hz];exact .head _) e (h.tZ.iV o (rH h.nd 2 0 rfl rfl) (h.Gf (j:=0) rfl).2).st rfl rfl h.start rfl rfl rfl rfl rfl h.failed h.dead h.highest rfl h.window h.first h.said rfl rfl rfl rfl rfl rfl rfl rfl rfl
def afG(s:Ra)(type flags id:Nat)(b:Rb):Ra:=
 if type=0 then Rc28.onData s flags id b else if type=1 then Rc28.onHeaders s flags id b else if type=2 then Rc28.onPriority s id b else if type=3 then Rc28.onReset s id b else if type=4 then Rc28.onSettings s flags id b
 else if type=5 then Rc28.die s 1 else if type=6 then KZ s flags id b else if type=7 then OD s flags id b else if type=8 then Rc28.onWindow s id b else if type=9 then Rc28.die s 1 else s
theorem ai7(s:Ra)(type flags id:Nat)(b:Rb):Rc28.got s type flags id b=if s.settled=false/\(type≠4\/flags%2=1) then Rc28.die s 1 else match s.block with
 |some k=>if type≠9\/id≠k.id then Rc28.die {s with settled:=true} 1 else added {s with settled:=true} k b (decide (flags / 4%2=1))
 |none=>afG {s with settled:=true} type flags id b:=by
 by_cases hc:s.settled=false/\(type≠4\/flags%2=1)
 . rw[Rc28.got,if_pos hc,if_pos hc]
 . rw[Rc28.got,if_neg hc,if_neg hc];clear hc
   cases s with
   |mk start settled part table highest streams window first block said dead out events now=>
    cases block with
    |none=>rfl
    |some k=>
     show (if type≠9\/id≠k.id then _ else _)=(if type≠9\/id≠k.id then _ else _)
     by_cases h9:type≠9\/id≠k.id
     . rw[if_pos h9,if_pos h9]
     . rw[if_neg h9,if_neg h9];dsimp only;unfold added;by_cases h65:65536<(k.bytes++b).length
       . rw[if_pos h65,if_pos h65]
       . rw[if_neg h65,if_neg h65];by_cases h4:flags / 4%2=1
         . rw[az h4,if_pos h4];rfl
         . rw[aq h4,if_neg h4];rfl
inductive UW(P:Program)(w:World)(K:Fg)(mg:Str->Option Value)(base:Heap)(k:Nat)(f:Addr)(sp:Sp):Prop
 |mk (_:PySem.W.keepIn K (.ref f)=true) (fd:_) (ps:_) (_:dR P w K mg base dW k f fd ps sp) (_:yO K fd ps [])
structure aih(P:Program)(w:World)(K:Fg)(mg:Str->Option Value)(base:Heap)(A:Ad)(f0 f1 f2 f3 f4 f5 f6 f7 f8:Addr):Prop where
 t:∀H,Bx K H A.lz [.ref f0,.ref f1,.ref f2,.ref f3,.ref f4,.ref f5,.ref f6,.ref f7,.ref f8,.ref f5]
 a0:UW P w K mg base 5 f0 (spH A λs f id b=>Rc28.onData s f id b)
 a1:UW P w K mg base 11 f1 (ak0 A λs f id b=>Rc28.onHeaders s f id b)
 a2:UW P w K mg base 4 f2 (spH A λs _ id b=>Rc28.onPriority s id b)
 a3:UW P w K mg base 5 f3 (spH A λs _ id b=>Rc28.onReset s id b)
 a4:UW P w K mg base 4 f4 (spH A λs f id b=>Rc28.onSettings s f id b)
 a5:UW P w K mg base 1 f5 (spH A λs _ _ _=>Rc28.die s 1)
 a6:UW P w K mg base 3 f6 (spH A KZ)
 a7:UW P w K mg base 5 f7 (spH A OD)
 a8:UW P w K mg base 4 f8 (spH A λs _ id b=>Rc28.onWindow s id b)
inductive aiy(A:Ad)(vs:List V)(H:Hp)(Q:VK)(_:XK):Prop
 |mk (L dL:Addr) (r:gM) (x:Lx) (s:Ra) (fr:Addr) (ty f id:Nat) (bd:Addr) (b:Rb) (_:vs=[.ref L,.ref fr]) (_:gb A H L dL r x s) (_:(∀k,s.block=some k->k.bytes.length<=70000)) (_:Rm s) (_:FrB A (foot L r x) H fr ty f id bd b) (_:wJ A L dL (foot L r x) H (Rc28.got s ty f id b) Q)
def amm{t u:TS}(h:∀N,N=u D->t {D with nx:=N} σ H):Dq t u D σ H:=h _ rfl
def VJ(F:j5 K "frame_came" "frame_came" Fi f fd)(T:Txt K mg A)(dw:rC P w K mg base A.sZ "has_set" dW 1 ["self","bit"] (uV A))(u9:jQ P w K mg base "go_on_with_block" dW 11 ["line","frame"] (akZ A)){f0 f1 f2 f3 f4 f5 f6 f7 f8:Addr}(KD:aih P w K mg base A f0 f1 f2 f3 f4 f5 f6 f7 f8):dR P w K mg base dW 12 f fd ["line","frame"] (aiy A):=by
 refine F.mZ (N:=["line","frame"]) (λ_ _ _ s H _ Q _ hr h _=>?_)
 . obtain⟨L,dL,r,x,s,fr,ty,f,id,bd,b,rfl,h,hkb,rm,B,q⟩:=h;refine⟨_,(ao (cV (rY (iB (aaO 0 rfl))) (ao (cV (uB (bF uA (aaO 1 rfl) (cR T.wR) (bO _)) (rZ (iB (nJ T.cO (pv 1) dw hr.lw lU (aa (cR T.zM) aK))))).pt (aG (aZ (cR T.gj))) bC)
    (aG (abu 0 qG rfl))) bC)
    (ao (cV (bF ahI (aaO 0 rfl) yu (bO _)) (aG (aZ (aU u9 hr.lw (aa (pv 0) (aa (pv 1) aK))))) bC)
    (ao (cV (bF yS (aaO 1 rfl) (bV bc (by rfl) T.gO aO (aa (cR T.Wt) aK)) (bO _)) (aG (aZ (aa4 (vU Ys (cR T.Wt) (aaO 1 rfl) (λ_ _=>rfl)) lU (aa (pv 0) (aa (pv 1) aK))))) bC)
    (aG (aZ (cR T.oA)))))),?_⟩
   obtain⟨dx,hfr⟩:=B.ob;rw[ai7]at q;refine amm λN hN=>?_;refine⟨rfl,h.ob,T.cN,T.oV,zQ,_,rfl,?_⟩;rw[h.settled];have cal:∀{k:Nat}{g:Addr}{sp:Sp},k<=11->UW P w K mg base k g sp->∀(X:Cx),X.prog=P->X.w=w->X.K=K->X.mg=mg->X.base=base->pB 11 X.A->abw X dW g sp:=by
    intro k g sp hk a X e1 e2 e3 e4 e5 hr';subst e1 e2 e3 e4 e5;obtain⟨z1,fd',ps,z2,z3⟩:=a;exact⟨z1,k,fd',ps,z2,hr'.mono hk,z3⟩
   have rm1:Rm {s with settled:=true}:=⟨rm.out,rm.evs⟩;obtain⟨s1,hs1⟩:∃s1:Ra,s1={s with settled:=true}:=⟨_,rfl⟩
   rw[<-hs1]at q rm1;have hb1:s1.block=s.block:=by rw[hs1]
   have acV:∀(r1:gM)(H1:Hp)(t:Ra),gf (foot L r x) H (foot L r1 x) H1->wJ A L dL (foot L r x) H t Q->wJ A L dL (foot L r1 x) H1 t Q:=λr1 H1 t st q=>⟨λr' x' H' h' st'=>q.ok h' (st.trans st'),λc s' r' H' e hc h' st'=>q.Wm e hc h' (st.trans st')⟩;have fin:¬(s.settled=false/\(ty≠4\/f%2=1))->∀(r1:gM)(H1:Hp),gb A H1 L dL r1 x s1->gf (foot L r x) H (foot L r1 x) H1->N [some (.ref L),some (.ref fr)] H1:=by
    intro hc r1 H1 h1 st1;rw[if_neg hc]at q;subst hN;have B1:=B.Rz st1;obtain⟨dx1,hfr1⟩:=B1.ob;refine⟨rfl,h1.ob,T.cN,T.lE,qM,rfl,_,rfl,?_⟩;have hblk:abv A H1 r1.gC x.bs s.block:=by rw[<-hb1];exact h1.Gj
    cases hb:s.block with
    |some k=>
     rw[hb]at q hblk;dsimp only at q;obtain⟨Bk,dB,rb,e1,_⟩:=hblk;rw[e1];exact cQ ⟨_,rfl,_,rfl,L,dL,r1,x,_,fr,ty,f,id,bd,b,k,rfl,h1,hb1.trans hb,hkb k hb,rm1,B1,acV _ _ _ st1 q⟩
    |none=>
     rw[hb]at q hblk;dsimp only at q;obtain⟨e1,_⟩:=hblk;rw[e1];refine cY ⟨rfl,hfr1,T.cO,T.qO,uv,_,_,rfl,.inr (KD.t H1),_,_,rfl,rfl,_,rfl,?_⟩;have q1:=acV _ _ _ st1 q;by_cases h10:ty<10
     . show if decide ((ty:Int)<((10:Nat):Int))=true then _ else _
       rw[show decide ((ty:Int)<((10:Nat):Int))=true from az (by omega)];refine cQ ⟨rfl,hfr1,T.cO,T.qO,uv,?_⟩;rcases (by omega:ty=0\/ty=1\/ty=2\/ty=3\/ty=4\/ty=5\/ty=6\/ty=7\/ty=8\/ty=9) with rfl|rfl|rfl|rfl|rfl|rfl|rfl|rfl|rfl|rfl
       . exact⟨A.lz,_,_,_,rfl,rfl,KD.t H1,jN (j:=0) rfl rfl,_,_,rfl,cal (by decide) KD.a0 _ rfl rfl rfl rfl rfl hr,_,rfl,_,rfl,L,dL,r1,x,_,fr,_,f,id,bd,b,rfl,h1,rm1,B1,q1⟩
       . exact⟨A.lz,_,_,_,rfl,rfl,KD.t H1,jN (j:=1) rfl rfl,_,_,rfl,cal (by decide) KD.a1 _ rfl rfl rfl rfl rfl hr,_,rfl,_,rfl,L,dL,r1,x,_,fr,_,f,id,bd,b,rfl,h1,hb1.trans hb,rm1,B1,q1⟩
       . exact⟨A.lz,_,_,_,rfl,rfl,KD.t H1,jN (j:=2) rfl rfl,_,_,rfl,cal (by decide) KD.a2 _ rfl rfl rfl rfl rfl hr,_,rfl,_,rfl,L,dL,r1,x,_,fr,_,f,id,bd,b,rfl,h1,rm1,B1,q1⟩
       . exact⟨A.lz,_,_,_,rfl,rfl,KD.t H1,jN (j:=3) rfl rfl,_,_,rfl,cal (by decide) KD.a3 _ rfl rfl rfl rfl rfl hr,_,rfl,_,rfl,L,dL,r1,x,_,fr,_,f,id,bd,b,rfl,h1,rm1,B1,q1⟩
       . exact⟨A.lz,_,_,_,rfl,rfl,KD.t H1,jN (j:=4) rfl rfl,_,_,rfl,cal (by decide) KD.a4 _ rfl rfl rfl rfl rfl hr,_,rfl,_,rfl,L,dL,r1,x,_,fr,_,f,id,bd,b,rfl,h1,rm1,B1,q1⟩
       . exact⟨A.lz,_,_,_,rfl,rfl,KD.t H1,jN (j:=5) rfl rfl,_,_,rfl,cal (by decide) KD.a5 _ rfl rfl rfl rfl rfl hr,_,rfl,_,rfl,L,dL,r1,x,_,fr,_,f,id,bd,b,rfl,h1,rm1,B1,q1⟩
       . exact⟨A.lz,_,_,_,rfl,rfl,KD.t H1,jN (j:=6) rfl rfl,_,_,rfl,cal (by decide) KD.a6 _ rfl rfl rfl rfl rfl hr,_,rfl,_,rfl,L,dL,r1,x,_,fr,_,f,id,bd,b,rfl,h1,rm1,B1,q1⟩
       . exact⟨A.lz,_,_,_,rfl,rfl,KD.t H1,jN (j:=7) rfl rfl,_,_,rfl,cal (by decide) KD.a7 _ rfl rfl rfl rfl rfl hr,_,rfl,_,rfl,L,dL,r1,x,_,fr,_,f,id,bd,b,rfl,h1,rm1,B1,q1⟩
       . exact⟨A.lz,_,_,_,rfl,rfl,KD.t H1,jN (j:=8) rfl rfl,_,_,rfl,cal (by decide) KD.a8 _ rfl rfl rfl rfl rfl hr,_,rfl,_,rfl,L,dL,r1,x,_,fr,_,f,id,bd,b,rfl,h1,rm1,B1,q1⟩
       . exact⟨A.lz,_,_,_,rfl,rfl,KD.t H1,jN (j:=9) rfl rfl,_,_,rfl,cal (by decide) KD.a5 _ rfl rfl rfl rfl rfl hr,_,rfl,_,rfl,L,dL,r1,x,_,fr,_,f,id,bd,b,rfl,h1,rm1,B1,q1⟩
     . show if decide ((ty:Int)<((10:Nat):Int))=true then _ else _
       rw[show decide ((ty:Int)<((10:Nat):Int))=false from aq (by omega)];refine cY (q1.ok (r':=r1) (x':=x) ?_ gf.refl);have:afG s1 ty f id b=s1:=by
        unfold afG;rw[if_neg (by omega),if_neg (by omega),if_neg (by omega),if_neg (by omega),if_neg (by omega),if_neg (by omega),if_neg (by omega),if_neg (by omega),if_neg (by omega),if_neg (by omega)]
       rw[this];exact h1
   by_cases hse:s.settled=true
   . rw[hse];refine cY (fin (by rw[hse];simp) r H ?_ gf.refl)
     rw[hs1];have:({s with settled:=true}:Ra)=s:=by cases s;simp only at hse;subst hse;rfl
     rw[this];exact h
   . have hse':s.settled=false:=by cases z:s.settled with|true=>exact absurd z hse|false=>rfl
     rw[hse'];refine cQ ⟨rfl,hfr,T.cO,T.qO,uv,rfl,_,rfl,?_⟩;rw[show decide (V.int (ty:Int)=V.int 4)=decide (ty=4) from Jt _ 4];by_cases h4:ty=4
     . rw[az h4];refine cY ⟨_,rfl,_,_,_,rfl,hfr,kh,fr,ty,f,id,1,bd,rfl,⟨dx,hfr⟩,B.hf,.inl rfl,_,rfl,?_⟩;rw[ue];by_cases h1:f%2=1
       . rw[az h1];rw[if_pos ⟨hse',.inr h1⟩]at q;exact cQ (q.die (c:=1) h rfl (by decide))
       . rw[aq h1];refine cY ⟨rfl,h.ob,T.cN,T.oV,qg,?_⟩;rw[zX];have o1:gm [L] H (L2.bM H L (.ins A.dF dL (bI {r with dX:=true}))):=gm.bM (.head _);have h1:=h.ajI o1 aB;rw[<-hs1]at h1;have st1:gf (foot L r x) H (foot L {r with dX:=true} x) (L2.bM H L (.ins A.dF dL (bI {r with dX:=true}))):=gf.of (o1.mono λy hy=>by rw[ak.mp hy];exact cC (j:=0) rfl) λ_ hy=>hy
         exact fin (by omega) _ _ h1 st1
     . rw[aq h4];rw[if_pos ⟨hse',.inl h4⟩]at q;exact cQ (cQ (q.die (c:=1) h rfl (by decide)))
end My
namespace My
open Rc28
def tln(m:Nat):Bytes:=if m<128 then [UInt8.ofNat m] else if m<16384 then [UInt8.ofNat (128+m%128),UInt8.ofNat (m / 128)] else [UInt8.ofNat (128+m%128),UInt8.ofNat (128+m / 128%128),UInt8.ofNat (m / 16384)]
def ZG(h:m<128):tln m=[UInt8.ofNat m]:=if_pos h
def acM(h:¬m<128)(hm:m<2097152):tln m=UInt8.ofNat (128+m%128)::tln (m / 128):=by
 unfold tln;rw[if_neg h];by_cases h2:m<16384
 . rw[if_pos h2,if_pos (by omega)]
 . rw[if_neg h2,if_neg (by omega),if_pos (by omega),Nat.div_div_eq_div_mul]
def aeq(h:n<2^bits-1):intOut bits fl n=[UInt8.ofNat (fl+n)]:=by unfold intOut;rw[if_pos h]
def aep(h:¬n<2^bits-1)(hn:n<2097152):intOut bits fl n=UInt8.ofNat (fl+(2^bits-1))::tln (n-(2^bits-1)):=by
 unfold intOut;rw[if_neg h];rfl
def zP:(intOut bits fl n).length<=4:=by
 unfold intOut;dsimp only;split
 . exact pQ rfl
 . split
   . exact pQ rfl
   . split<;>exact pQ rfl
def abK(f t fl id:Nat)(b:Bytes):blockOut (f+1) t fl id b=if b.length<=16384 then frame t (fl+4) id b else frame t fl id (b.take 16384)++blockOut f 9 0 id (b.drop 16384):=rfl
def aef(f fl id:Nat)(b:Bytes):dataOut (f+1) fl id b=if b.length<=16384 then frame 0 fl id b else frame 0 0 id (b.take 16384)++dataOut f fl id (b.drop 16384):=rfl
def nP(b:Bytes):Nat:=(b.length+16383) / 16384
def zV(b:Bytes)(k:Nat):Bytes:=(b.drop (k*16384)).take 16384
def WY(b:Bytes)(k:Nat):(zV b k).length<=16384:=by unfold zV;rw[aY];omega
def O5(fl id:Nat)(b:Bytes)(k:Nat):Bytes:=if k<nP b then blockOut (8-k) (if k=0 then 1 else 9) (if k=0 then fl else 0) id (b.drop (k*16384)) else []
def aeI{id:Nat}{b:Bytes}(hb:b.length<=131072){k:Nat}(hk:k<nP b):
 O5 fl id b k=frame (if k=0 then 1 else 9) ((if k=0 then fl else 0)+if k+1=nP b then 4 else 0) id (zV b k)++O5 fl id b (k+1):=by
 have h8:nP b<=8:=by unfold nP;omega
 obtain⟨f,hf⟩:∃f,8-k=f+1:=⟨7-k,by omega⟩;unfold O5;rw[if_pos hk,hf,show (if k+1=0 then 1 else 9)=9 from rfl,show (if k+1=0 then fl else 0)=0 from rfl,abK]
 have hl:(b.drop (k*16384)).length=b.length-k*16384:=bu;by_cases hlast:k+1=nP b
 . have hs:(b.drop (k*16384)).length<=16384:=by rw[hl];unfold nP at hlast;omega
   rw[if_pos hs,if_pos hlast,if_neg (show ¬k+1<nP b by omega),eQ];unfold zV;rw[jO hs]
 . have hs:¬(b.drop (k*16384)).length<=16384:=by rw[hl];unfold nP at hlast hk;omega
   rw[if_neg hs,if_neg hlast,if_pos (show k+1<nP b by omega),Nat.add_zero,gw,show 8-(k+1)=f by omega,show k*16384+16384=(k+1)*16384 by omega];rfl
def ago(fl id:Nat)(b:Bytes):O5 fl id b (nP b)=[]:=by unfold O5;rw[if_neg (gA _)]
def W0(fl id:Nat){b:Bytes}(h:0<b.length):O5 fl id b 0=blockOut 8 1 fl id b:=by
 unfold O5;rw[if_pos (by unfold nP;omega),if_pos rfl,if_pos rfl,Nat.zero_mul,lH]
def acw(fl id:Nat)(b:Bytes)(k:Nat):Bytes:=if k<nP b then dataOut (8-k) fl id (b.drop (k*16384)) else []
def aeJ{id:Nat}{b:Bytes}(hb:b.length<=131072){k:Nat}(hk:k<nP b):
 acw fl id b k=frame 0 (if k+1=nP b then fl else 0) id (zV b k)++acw fl id b (k+1):=by
 have h8:nP b<=8:=by unfold nP;omega
 obtain⟨f,hf⟩:∃f,8-k=f+1:=⟨7-k,by omega⟩;unfold acw;rw[if_pos hk,hf,aef];have hl:(b.drop (k*16384)).length=b.length-k*16384:=bu;by_cases hlast:k+1=nP b
 . have hs:(b.drop (k*16384)).length<=16384:=by rw[hl];unfold nP at hlast;omega
   rw[if_pos hs,if_pos hlast,if_neg (show ¬k+1<nP b by omega),eQ];unfold zV;rw[jO hs]
 . have hs:¬(b.drop (k*16384)).length<=16384:=by rw[hl];unfold nP at hlast hk;omega
   rw[if_neg hs,if_neg hlast,if_pos (show k+1<nP b by omega),gw,show 8-(k+1)=f by omega,show k*16384+16384=(k+1)*16384 by omega];rfl
def aeK(fl id:Nat){b:Bytes}(h:0<b.length):acw fl id b 0=dataOut 8 fl id b:=by
 unfold acw;rw[if_pos (by unfold nP;omega),Nat.zero_mul,lH]
theorem vZ:∀(f t fl id:Nat)(b:Bytes),(blockOut f t fl id b).length<=9*f+b.length
 |0,_,_,_,_=>bW _
 |f+1,t,fl,id,b=>by
  unfold blockOut;split
  . rw[ur];omega
  . have:=vZ f 9 0 id (b.drop 16384);rw[aF,ur,aY];rw[bu]at this;omega
theorem Bj:∀(f fl id:Nat)(b:Bytes),(dataOut f fl id b).length<=9*f+b.length
 |0,_,_,_=>bW _
 |f+1,fl,id,b=>by
  unfold dataOut;split
  . rw[ur];omega
  . have:=Bj f fl id (b.drop 16384);rw[aF,ur,aY];rw[bu]at this;omega
def hd(b:Bytes):Option (List Header):=handed (b.length+1) b
theorem Py:∀(f g:Nat)(b:Bytes),b.length<f->b.length<g->handed f b=handed g b
 |0,_,_,h,_=>absurd h (kO _)
 |_+1,0,_,_,h=>absurd h (kO _)
 |f+1,g+1,b,hf,hg=>by
  unfold handed;dsimp only;split
  . rfl
  . rename_i hb;split
    . rfl
    . have hl:0<b.length:=by cases b with|nil=>exact absurd rfl hb|cons _ _=>exact rM _
      rw[Py f g _ (by rw[bu];omega) (by rw[bu];omega)]
def ab2:hd []=some []:=rfl
def adi{b:Bytes}(hb:0<b.length):hd b=if b.length<4+num (b.take 2)+num ((b.drop 2).take 2) then none else
 (hd (b.drop (4+num (b.take 2)+num ((b.drop 2).take 2)))).map λl=>((((b.drop 4).take (num (b.take 2))),((b.drop (4+num (b.take 2))).take (num ((b.drop 2).take 2)))):Header)::l:=by
 unfold hd;rw[handed];have:¬b.isEmpty=true:=by cases b with|nil=>exact absurd hb (gA _)|cons _ _=>exact aW
 rw[if_neg this];dsimp only;split
 . rfl
 . rw[Py b.length _ _ (by rw[bu];omega) (jX _)]
def jB(l:List Header):Nat:=(l.map λh=>4+h.1.length+h.2.length).sum
theorem Yn:∀(n:Nat)(b:Bytes)(l:List Header),b.length<=n->hd b=some l->jB l<=b.length
 |0,b,l,hn,h=>by
  have:b=[]:=gq.mp (Nat.le_zero.mp hn);subst this;rw[ab2]at h
  cases h;exact aH _
 |n+1,b,l,hn,h=>by
  by_cases hb:0<b.length
  . rw[adi hb]at h;split at h
    . cases h
    . rename_i hlt
      cases e:hd (b.drop (4+num (b.take 2)+num ((b.drop 2).take 2))) with
      |none=>rw[e]at h;cases h
      |some l'=>
       rw[e]at h
       cases h;have ih:=Yn n _ l' (by rw[bu];omega) e
       rw[bu]at ih;unfold jB at ih ⊢;rw[bG,jq,aY,aY,bu,bu];omega
  . have:b=[]:=gq.mp (by omega);subst this;rw[ab2]at h
    cases h;exact aH _
def xZ(b:Bytes):(textOut b).length<=4+b.length:=by
 unfold textOut;rw[aF];have:=zP (bits:=7) (fl:=0) (n:=b.length);omega
def PQ(h:Header):(packOne h).length<=3*(4+h.1.length+h.2.length):=by
 unfold packOne;split
 . rename_i i _;have:=zP (bits:=7) (fl:=128) (n:=i+1);omega
 . split
   . rename_i i _;have:=zP (bits:=4) (fl:=0) (n:=i+1);have:=xZ h.2;rw[aF];omega
   . have:=xZ h.1;have:=xZ h.2;rw[bj,aF];omega
theorem CZ:∀l:List Header,(l.flatMap packOne).length<=3*jB l
 |[]=>aH _
 |h::r=>by
  have:=PQ h;have:=CZ r;unfold jB at this ⊢;rw[pJ,aF,bG,jq];omega
def SQ:0<(intOut bits fl n).length:=by
 unfold intOut;dsimp only;split<;>exact rM _
def aa3(h:Header):0<(packOne h).length:=by
 unfold packOne;split
 . exact SQ
 . split
   . rw[aF];exact bZ SQ (lR _ _)
   . exact rM _
def Sz.akU{s:Abs}(z:Sz n s)(h:n<=m){o:Bytes}(ho:o.length<=26*m):Sz m {s with out:=o}:=
 let y:=z.mono h
 ⟨y.pb,y.yd,y.ev,y.now,y.evs,ho,y.str,y.nd,y.Hg,y.hi,y.start,y.U0⟩
def ah5:Sz 1 (send {} 4 0 0 (be 2 3++be 4 32)):=by
 exact⟨bW _,⟨by decide,by decide⟩,λe h=>(by cases h),λe h=>(by cases h),bW _,by decide +kernel,bW _,.nil,λx h=>(by cases h),by decide,bW _,λk h=>(by cases h)⟩
def agF{s:Abs}(z:Sz n s):Sz (n+1) {s with now:=s.events.head?,events:=s.events.drop 1}:=by
 have y:=z.mono (mY n);refine⟨y.pb,y.yd,λe h=>y.ev e (List.mem_of_mem_drop h),λe h=>y.ev e (List.mem_of_mem_head? h),?_,y.out,y.str,y.nd,y.Hg,y.hi,y.start,y.U0⟩;show (s.events.drop 1).length<=_
 rw[bu];have:=y.evs;omega
def aaF{s:Abs}(z:Sz n s)(id m:Nat)(hm:n<=m)(ho:s.out.length+13<=26*m):Sz m (ended s id):=by
 unfold ended;split
 . exact z.mono hm
 . split
   . have:=Ea s id 0;exact((z.sy.mono hm).fail id 0).sz (by have:=this.out;omega) (by have:=this.ev;have:=z.evs;omega)
   . have:=adh s id;exact((z.sy.mono hm).drop id).sz (by have:=this.out;omega) (by have:=this.ev;have:=z.evs;omega)
def Sz.chg{s:Abs}(z:Sz n s)(id:Nat){f:Stream->Stream}(hf:∀x,(f x).id=x.id):Sz n (change s id f):=
 (z.sy.change id hf).sz z.out z.evs
def cn:Call->Nat
 |.init=>1|.feed b _=>b.length+2|.take _=>2|.event=>1|.header _ _=>3|.data _=>2|.answer _ b _ _=>b.length+4|.send _ b _ _=>b.length+4|.reset _ _=>3|.away _=>2
def ahe{s:Abs}(z:Sz n s):∀c:Call,Sz (n+cn c) (does s c).1:=by
 intro c;have zo:=z.out
 cases c<;>unfold cn<;>dsimp only
 case init=>exact ah5.mono (show 1<=n+1 by omega)
 case feed b k=>
  unfold does;dsimp only;split
  . exact z.mono (by omega)
  . exact(aa2 b z).mono (by omega)
 case take room=>
  refine z.akU (by omega) ?_;rw[bu];omega
 case event=>exact agF z
 case header k room=>
  unfold does;dsimp only;split
  . exact z.mono (by omega)
  . split<;>exact z.mono (by omega)
 case data room=>
  unfold does;dsimp only;split
  . split<;>exact z.mono (by omega)
  . exact z.mono (by omega)
 case answer id b k last=>
  unfold does;dsimp only;split
  . exact z.mono (by omega)
  . split
    . exact z.mono (by omega)
    . split
      . rename_i x l _ hl;split
        . exact z.mono (by omega)
        . split
          . exact z.mono (by omega)
          . have hp:=CZ l;have hq:=Yn _ b l (aH _) hl;have hb:=vZ 8 1 (if last≠0 then 1 else 0) x.id ((if s.said=true then [] else [32])++l.flatMap packOne)
            have hk:((if s.said=true then [] else [32])++l.flatMap packOne:Bytes).length<=1+3*b.length:=by
             rw[aF];have:(if s.said=true then [] else [32]:Bytes).length<=1:=by split<;>decide
             omega
            generalize blockOut 8 1 (if last≠0 then 1 else 0) x.id ((if s.said=true then [] else [32])++l.flatMap packOne)=o at hb
            have zc:Sz n (change s x.id λy=>{y with begun:=true}):=z.chg _ λ_=>rfl;have zt:Sz (n+(b.length+4)) { (change s x.id λy=>{y with begun:=true}) with said:=true,out:=s.out++o}:=by
             have y:=zc.mono (by omega:n<=n+(b.length+4));refine⟨y.pb,y.yd,y.ev,y.now,y.evs,?_,y.str,y.nd,y.Hg,y.hi,y.start,y.U0⟩;show (s.out++o).length<=_
             rw[aF];omega
            split
            . refine aaF zt _ _ (aH _) ?_;show (s.out++o).length+13<=_
              rw[aF];omega
            . exact zt
      . exact z.mono (by omega)
 case send id b k last=>
  unfold does;dsimp only;split
  . exact z.mono (by omega)
  . split
    . exact z.mono (by omega)
    . split
      . exact z.mono (by omega)
      . rename_i x _;split
        . exact z.mono (by omega)
        . split
          . exact z.mono (by omega)
          . generalize hc:min b.length (min s.window x.window).toNat=c;split
            . exact z.mono (by omega)
            . generalize (if decide (last≠0/\c=b.length)=true then 1 else 0)=fl
              have hb:=Bj 8 fl x.id (b.take c);rw[aY]at hb;generalize dataOut 8 fl x.id (b.take c)=o at hb;have zc:Sz n (change s x.id λy=>{y with window:=y.window-c}):=z.chg _ λ_=>rfl;have zt:Sz (n+(b.length+4)) { (change s x.id λy=>{y with window:=y.window-c}) with window:=s.window-c,out:=s.out++o}:=by
               have y:=zc.mono (by omega:n<=n+(b.length+4));refine⟨y.pb,y.yd,y.ev,y.now,y.evs,?_,y.str,y.nd,y.Hg,y.hi,y.start,y.U0⟩;show (s.out++o).length<=_
               rw[aF];omega
              split
              . refine aaF zt _ _ (aH _) ?_;show (s.out++o).length+13<=_
                rw[aF];omega
              . exact zt
 case reset id code=>
  unfold does;dsimp only;split
  . exact z.mono (by omega)
  . split
    . exact z.mono (by omega)
    . split
      . exact z.mono (by omega)
      . have g:=Ea s id.toNat code.toNat;exact((z.sy.mono (by omega)).fail _ _).sz (by have:=g.out;omega) (by have:=g.ev;have:=z.evs;omega)
 case away code=>
  unfold does;dsimp only;split
  . exact z.mono (by omega)
  . split
    . exact z.mono (by omega)
    . have g:=Yl s code.toNat;exact((z.sy.mono (by omega)).die _).sz (by have:=g.out;omega) (by have:=g.ev;have:=z.evs;omega)
theorem abl:∀(b:Bytes){n:Nat}{s:Abs},Sz n s->(takes s b).2.out.length<=s.out.length+26*b.length
 |[],n,s,z=>aH _
 |c::r,n,s,z=>by
  unfold takes;split
  . exact lR _ _
  . have h1:=abl r (Ru z c);have h2:=(aaX z c).2.out;show (takes (byteIn s c) r).2.out.length<=_
    rw[bj];omega
def aaD(s:Abs)(id:Nat):(ended s id).out.length<=s.out.length+13:=by
 unfold ended;split
 . omega
 . split
   . exact(Ea s id 0).out
   . exact lR _ _
def afq{s:Abs}(z:Sz n s)(hn:n<=30000)(c:Call):(does s c).2.numbers.length+(does s c).1.out.length<=s.out.length+26*cn c+34100:=by
 cases c with
 |init=>
  have:(send {} 4 0 0 (be 2 3++be 4 32)).out.length<=26:=by decide +kernel
  unfold does cn;dsimp only[List.length_nil];omega
 |feed b k=>
  unfold does cn;dsimp only;split
  . (dsimp only[refused,List.length_nil];omega)
  . have:=abl b z
    (dsimp only[refused,List.length_nil];omega)
 |take room=>
  unfold does cn codes;dsimp only;rw[aC,aY,bu];omega
 |event=>
  unfold does cn;dsimp only;have:∀e,(kindOf e).2.length<=4:=λe=>by unfold kindOf;split<;>exact aH _
  have:=this s.events.head?;omega
 |header k room=>
  unfold does cn;dsimp only;split
  . (dsimp only[refused,List.length_nil];omega)
  . rename_i h e;split
    . (dsimp only[refused,List.length_nil];omega)
    . have hm:hl h<=4096+n:=by
       split at e
       . cases e
       . have hmem:=cD e
         cases hs:s.now with
         |none=>rw[hs]at hmem;cases hmem
         |some ev=>
          rw[hs]at hmem;have hz:=z.now ev hs
          cases ev with
          |request i l last=>exact hz.2 h hmem
          |trailers i l=>exact hz.2 h hmem
          |data i b last=>cases hmem
          |reset i c=>cases hmem
          |away c=>cases hmem
      unfold hl at hm;unfold codes;dsimp only;rw[bj,aC,aF];omega
 |data room=>
  unfold does cn;dsimp only;split
  . rename_i i b last e;split
    . (dsimp only[refused,List.length_nil];omega)
    . have hz:b.length<=n:=z.now _ e;unfold codes;dsimp only;rw[aC];omega
  . (dsimp only[refused,List.length_nil];omega)
 |answer id b k last=>
  unfold does cn;dsimp only;split
  . (dsimp only[refused,List.length_nil];omega)
  . split
    . (dsimp only[refused,List.length_nil];omega)
    . split
      . rename_i x l _ hl;split
        . (dsimp only[refused,List.length_nil];omega)
        . split
          . (dsimp only[refused,List.length_nil];omega)
          . have hp:=CZ l;have hq:=Yn _ b l (aH _) hl;have hb:=vZ 8 1 (if last≠0 then 1 else 0) x.id ((if s.said=true then [] else [32])++l.flatMap packOne)
            have hk:((if s.said=true then [] else [32])++l.flatMap packOne:Bytes).length<=1+3*b.length:=by
             rw[aF];have:(if s.said=true then [] else [32]:Bytes).length<=1:=by split<;>decide
             omega
            generalize blockOut 8 1 (if last≠0 then 1 else 0) x.id ((if s.said=true then [] else [32])++l.flatMap packOne)=o at hb
            dsimp only[List.length_nil];split
            . refine cG (Nat.add_le_add_left (aaD _ _) 0) ?_;show 0+((s.out++o).length+13)<=_
              rw[aF];omega
            . show 0+(s.out++o).length<=_
              rw[aF];omega
      . (dsimp only[refused,List.length_nil];omega)
 |send id b k last=>
  unfold does cn;dsimp only;split
  . (dsimp only[refused,List.length_nil];omega)
  . split
    . (dsimp only[refused,List.length_nil];omega)
    . split
      . (dsimp only[refused,List.length_nil];omega)
      . rename_i x _;split
        . (dsimp only[refused,List.length_nil];omega)
        . split
          . (dsimp only[refused,List.length_nil];omega)
          . generalize hc:min b.length (min s.window x.window).toNat=c;split
            . (dsimp only[refused,List.length_nil];omega)
            . generalize (if decide (last≠0/\c=b.length)=true then 1 else 0)=fl
              have hb:=Bj 8 fl x.id (b.take c);rw[aY]at hb;generalize dataOut 8 fl x.id (b.take c)=o at hb;dsimp only[List.length_nil];split
              . refine cG (Nat.add_le_add_left (aaD _ _) 0) ?_;show 0+((s.out++o).length+13)<=_
                rw[aF];omega
              . show 0+(s.out++o).length<=_
                rw[aF];omega
 |reset id code=>
  unfold does cn;dsimp only;split
  . (dsimp only[refused,List.length_nil];omega)
  . split
    . (dsimp only[refused,List.length_nil];omega)
    . split
      . (dsimp only[refused,List.length_nil];omega)
      . have g:=(Ea s id.toNat code.toNat).out
        (dsimp only[refused,List.length_nil];omega)
 |away code=>
  unfold does cn;dsimp only;split
  . (dsimp only[refused,List.length_nil];omega)
  . split
    . (dsimp only[refused,List.length_nil];omega)
    . have g:=(Yl s code.toNat).out
      (dsimp only[refused,List.length_nil];omega)
def afX(s:Abs)(c:Int):(does s (.away c)).2.numbers=[]:=by
 unfold does;dsimp only;split
 . rfl
 . split<;>rfl
def aez(s:Abs)(i c:Int):(does s (.reset i c)).2.numbers=[]:=by
 unfold does;dsimp only;split
 . rfl
 . split
   . rfl
   . split<;>rfl
def ach(s:Abs)(i:Int)(b:Bytes)(n l:Int):(does s (.answer i b n l)).2.numbers=[]:=by
 unfold does;dsimp only;split
 . rfl
 . split
   . rfl
   . split
     . split
       . rfl
       . split<;>rfl
     . rfl
def afY(s:Abs)(i:Int)(b:Bytes)(n l:Int):(does s (.send i b n l)).2.numbers=[]:=by
 unfold does;dsimp only;split
 . rfl
 . split
   . rfl
   . split
     . rfl
     . split
       . rfl
       . split
         . rfl
         . split<;>rfl
def aiT(c:Call):0<cn c:=by cases c<;>exact rM _
end My
namespace My
open PySem L2
def Og{l:List Addr}(nd:l.Nodup)(hu:u∉l):(l.set i u).Nodup:=by
 refine kI.mpr λa b ha hb hab=>?_;have p:=kI.mp nd;rw[List.length_set]at ha hb;rw[List.getElem_set,List.getElem_set];split
 . split
   . omega
   . exact λe=>hu (by rw[e];exact nR _)
 . split
   . exact λe=>hu (by rw[<-e];exact nR _)
   . exact p a b ha hb hab
def qI.Yu{e:Option Rv}(x:qI A X H a e)(g:∀y∈Y,y∈X\/H y=none)(o:gm Y H H'):qI A Y H' a e:=(x.BL g).iV o
def rE.Yu{t dt nf fx:Addr}{rows:List Rh}(x:rE A X H t dt nf fx rows m)(g:∀y∈Y,y∈X\/H y=none)(o:gm Y H H')(e1:H' t=H t)(e2:H' nf=H nf)(tY:t∈Y)(nY:nf∈Y):rE A Y H' t dt nf fx rows m:=by
 obtain⟨as,h1,h2⟩:=x.nw;obtain⟨fs,h3,h4⟩:=x.fi;have fY:=CW h3 x.fX g;exact⟨e1.trans x.ob,⟨as,e2.trans h1,bN h2 λ_ _ z=>(z.BL g).iV o⟩,⟨fs,o _ _ h3 fY,bN h4 λ_ _ z=>(z.BL g).iV o⟩,fY,tY,nY⟩
def gb.ah1(h:gb A H L dL r x s)(o:gm [L] H H')(e:H' L=some (.ins A.dF dL (bI {r with gR:=((s.start+1:Nat):Int)}))):gb A H' L dL {r with gR:=((s.start+1:Nat):Int)} x {s with start:=s.start+1}:=
 h.z6 (o.mono λz hz=>by rw[ak.mp hz];exact .head _) e (h.tZ.iV o (rH h.nd 2 0 rfl rfl) (h.Gf (j:=0) rfl).2).st rfl rfl rfl rfl rfl h.settled rfl rfl h.failed h.dead h.highest rfl h.window h.first h.said rfl rfl rfl rfl rfl rfl rfl rfl rfl
def gb.aju(h:gb A H L dL r x s){p:Rb}(o:gm [r.di] H H')(e:H' r.di=some (.cM (bv p))):gb A H' L dL r x {s with part:=p}:=by
 have oX:gm (foot L r x) H H':=o.mono λy hy=>by rw[ak.mp hy];exact cC (j:=1) rfl
 have t:=h.Gf (j:=1) rfl;exact⟨o _ _ h.ob (rH h.nd 0 1 rfl rfl),h.start,e,h.settled,h.failed,h.dead,h.highest,h.window,h.first,h.said,o _ _ h.out (rH h.nd 5 1 rfl rfl),h.Gj.iV o t.1,h.tZ.iV o (rH h.nd 2 1 rfl rfl) t.2,
  h.yd.iV o (λy hy=>by rw[ak.mp hy];exact cC (j:=1) rfl) (rH h.nd 3 1 rfl rfl) (rH h.nd 4 1 rfl rfl),h.Dr,h.evs.iV oX o (rH h.nd 6 1 rfl rfl),h.wt,h.now.iV oX,h.nd,h.wL.iV o λy hy=>by rw[ak.mp hy];exact⟨_,e⟩⟩
def aaK(hu:H u=none):∀y∈(foot L r x).set i u,y∈foot L r x\/H y=none:=λy hy=>by
 rcases kE hy with z|z
 . exact .inl z
 . rw[z];exact .inr hu
def gb.ahw(h:gb A H L dL r x s)(hu:H u=none)(o:gm [L] H H')(e:H' L=some (.ins A.dF dL (bI {r with di:=u})))(eu:H' u=some (.cM [])):
 gb A H' L dL {r with di:=u} x {s with part:=[]}/\gf (foot L r x) H (foot L {r with di:=u} x) H':=by
 have hX:foot L {r with di:=u} x=(foot L r x).set 1 u:=rfl;have g:∀y∈foot L {r with di:=u} x,y∈foot L r x\/H y=none:=aaK (L:=L) (r:=r) (x:=x) (i:=1) hu;have o':gm (foot L {r with di:=u} x) H H':=o.mono λy hy=>by rw[ak.mp hy];exact cC (j:=0) rfl
 have t:=h.Gf (j:=0) rfl;have kp:∀{j:Nat}{b:Addr},(foot L r x)[j]? = some b->j≠0->H' b=H b:=fun {j b} hj h0=>by
  obtain⟨ob,hob⟩:=h.wL b (cD hj);rw[hob];exact o _ _ hob λm=>yQ h.nd hj (j:=0) rfl h0 (ak.mp m)
 refine⟨⟨e,h.start,eu,h.settled,h.failed,h.dead,h.highest,h.window,h.first,h.said,o _ _ h.out (rH h.nd 5 0 rfl rfl),h.Gj.iV o t.1,h.tZ.iV o (rH h.nd 2 0 rfl rfl) t.2,h.yd.Yu g o' (kp (j:=3) rfl (by decide)) (kp (j:=4) rfl (by decide)) (cC (j:=3) rfl) (cC (j:=4) rfl),h.Dr,?_,h.wt,h.now.Yu g o',?_,λy hy=>?_⟩,o.mono λy hy=>by rw[ak.mp hy];exact cC (j:=0) rfl,g⟩
 . obtain⟨es,h1,h2⟩:=h.evs;exact⟨es,o _ _ h1 (rH h.nd 6 0 rfl rfl),bN h2 λ_ _ z=>z.Yu g o'⟩
 . rw[hX];exact Og h.nd (h.wL.out hu)
 . rw[hX]at hy;rcases kE hy with z|z
   . exact(h.wL.iV o λy hy=>by rw[ak.mp hy];exact⟨_,e⟩) y z
   . rw[z];exact⟨_,eu⟩
def wJ.acV{X1:List Addr}{t:Ra}(q:wJ A L dL X H t Q)(st:gf X H X1 H1):wJ A L dL X1 H1 t Q:=
 ⟨λ_ _ _ h' st'=>q.ok h' (st.trans st'),λ_ _ _ _ e hc h' st'=>q.Wm e hc h' (st.trans st')⟩
def ZF(s:Ra)(c:UInt8):Ra:=
 if (s.part++[c]).length<9 then {s with part:=s.part++[c]}
 else if 16384<Rc28.num ((s.part++[c]).take 3) then Rc28.die {s with part:=[]} 6
 else if (s.part++[c]).length<9+Rc28.num ((s.part++[c]).take 3) then {s with part:=s.part++[c]}
 else Rc28.got {s with part:=[]} (Rc28.num (((s.part++[c]).drop 3).take 1)) (Rc28.num (((s.part++[c]).drop 4).take 1)) (Rc28.num (((s.part++[c]).drop 5).take 4)%2^31) ((s.part++[c]).drop 9)
def aau{c:UInt8}(hd:s.dead=false)(hs:¬s.start<24):Rc28.byteIn s c=ZF s c:=by
 unfold Rc28.byteIn ZF;rw[if_neg (by rw[hd];exact aW),if_neg hs]
def SM(s:Ra)(c:UInt8):Ra:=if PREFACE[s.start]? = some c then {s with start:=s.start+1} else Rc28.die s 1
def aat{c:UInt8}(hd:s.dead=false)(hs:s.start<24):Rc28.byteIn s c=SM s c:=by
 unfold Rc28.byteIn SM;rw[if_neg (by rw[hd];exact aW),if_pos hs]
def aeH:([.int 80,.int 82,.int 73,.int 32,.int 42,.int 32,.int 72,.int 84,.int 84,.int 80,.int 47,.int 50,.int 46,.int 48,.int 13,.int 10,.int 13,.int 10,.int 83,.int 77,.int 13,.int 10,.int 13,.int 10]:List V)=bv PREFACE:=by
 have:PREFACE=[80,82,73,32,42,32,72,84,84,80,47,50,46,48,13,10,13,10,83,77,13,10,13,10]:=by decide +kernel
 rw[this];rfl
def akM(b:Rb){c:UInt8}(h:b[i]? = some c):Rc28.num ((b.drop i).take 1)=c.toNat:=by
 obtain⟨hi,e⟩:=bh.mp h;rw[iy hi,e];show 256*0+c.toNat=_
 omega
inductive adK(A:Ad)(vs:List V)(H:Hp)(Q:VK)(_:XK):Prop
 |mk (L dL:Addr) (r:gM) (x:Lx) (s:Ra) (c:UInt8) (_:vs=[.ref L,.int (c.toNat:Int)]) (_:gb A H L dL r x s) (_:s.start<24) (_:wJ A L dL (foot L r x) H (SM s c) Q)
def KH(F:j5 K "first_byte_came" "first_byte_came" wy f fd)(T:Txt K mg A):dR P w K mg base dW 1 f fd ["line","byte"] (adK A):=by
 refine F.mZ (N:=["line","byte"]) (λ_ _ _ s H _ _ _ _ h _=>?_)
 . obtain⟨L,dL,r,x,s,c,rfl,h,hs,q⟩:=h;refine⟨_,(ao (cV (bF uA (pv 1) (vU Ys (cR T.JN) (aaO 0 rfl) (λ_ _=>rfl)) (bO _)) (aG (aZ (cR T.gj))) bC)
    (ao (aa8 0 bx Hh)
    (aG (aZ (cR T.oA))))),?_⟩
   have hl:s.start<PREFACE.length:=by
    have:PREFACE.length=24:=by decide +kernel
    omega
   have ht:=T.J1 H;rw[aeH]at ht;have hg:PREFACE[s.start]? = some PREFACE[s.start]:=bf hl;generalize PREFACE[s.start]=d at hg;refine⟨_,rfl,rfl,h.ob,T.cN,T.ni,pM,_,_,_,_,rfl,rfl,ht,jN (j:=s.start) h.start (v:=.int (d.toNat:Int)) (by unfold bv;rw[bA,hg];rfl),rfl,_,rfl,?_⟩
   rw[Jt];by_cases hc:c=d
   . rw[az (by rw[hc])];refine cY ⟨rfl,h.ob,T.cN,T.ni,pM,_,_,rfl,rfl,_,_,h.ob,qg,?_⟩;rw[BV,h.start,show ((s.start:Nat):Int)+1=((s.start+1:Nat):Int) by omega];have o:gm [L] H (L2.bM H L (.ins A.dF dL (bI {r with gR:=((s.start+1:Nat):Int)}))):=gm.bM (.head _);refine q.ok (r':={r with gR:=((s.start+1:Nat):Int)}) (x':=x) ?_ (gf.of (o.mono λy hy=>by rw[ak.mp hy];exact cC (j:=0) rfl) λ_ hy=>hy)
     unfold SM;rw[if_pos (by rw[hg,hc])];exact h.ah1 o aB
   . rw[aq (λz=>hc (rA.mp z))];refine cQ (q.die (c:=1) h ?_ (by decide));unfold SM;rw[if_neg (by rw[hg];exact λz=>hc (cz z).symm)]
inductive Qh(A:Ad)(vs:List V)(H:Hp)(Q:VK)(_:XK):Prop
 |mk (L dL:Addr) (r:gM) (x:Lx) (s:Ra) (c:UInt8) (_:vs=[.ref L,.int (c.toNat:Int)]) (_:gb A H L dL r x s) (_:Rm s) (_:s.part.length<=30000) (_:(∀k,s.block=some k->k.bytes.length<=70000)) (_:wJ A L dL (foot L r x) H (ZF s c) Q)
def KJ(F:j5 K "frame_byte_came" "frame_byte_came" wz f fd)(T:Txt K mg A)(du:jQ P w K mg base "number_of_bytes" dW 1 ["row"] (Us K))(dM:jQ P w K mg base "number_without_top_bit" dW 2 ["row"] (abj K))(Du:DQ P w K mg base "Frame" A.sZ 1 ["self","kind","flags","stream","body"] (Qi A))(DG:jQ P w K mg base "frame_came" dW 12 ["line","frame"] (aiy A)):dR P w K mg base dW 13 f fd ["line","byte"] (Qh A):=by
 refine F.mZ (N:=["line","byte","row","length"]) (λ_ _ _ s H _ _ _ hr h nd0=>?_)
 . obtain⟨L,dL,r,x,s,c,rfl,h,rm,hpl,hkb,q⟩:=h;refine⟨_,(ao (cB (i:=2) nd0 rfl (Or.inl rfl) (aaO 0 rfl))
    (ao (dz (uR bB fQ fV vQ (pv 2) (aa (pv 1) aK)))
    (ao (cV (bF yS (bV bc (by rfl) T.gO aO (aa (pv 2) aK)) (cR T.DX) (bO _)) (aG (aZ (cR T.oA))) bC)
    (ao (cB (i:=3) nd0 rfl (Or.inl rfl) (aU du hr.lw (aa (jz lG (pv 2) uW (iu bx)) aK)))
    (ao (cV (bF qF (pv 3) (cR T.yo) (bO _)) (aG (aZ (cR T.lB))) bC)
    (ao (cV (bF yS (bV bc (by rfl) T.gO aO (aa (pv 2) aK)) (iW oG (cR T.DX) (pv 3)) (bO _)) (aG (aZ (cR T.oA))) bC)
    (ao (abu 0 (jT aK) rfl)
    (aG (aZ (aU DG hr.lw (aa (pv 0) (aa (qt Du hr.lw (aa (vU pZ (pv 2) bx (λ_ _=>rfl)) (aa (vU pZ (pv 2) bx (λ_ _=>rfl)) (aa (aU dM hr.lw (aa (jz lG (pv 2) (iu bx) (iu bx)) aK)) (aa (jz lG (pv 2) (iu (cR T.DX)) uW) aK))))) aK)))))))))))),?_⟩
   refine⟨rfl,h.ob,T.cN,T.vp,Ju,?_⟩;refine⟨_,rfl,.inl ⟨rfl,_,fH.of h.part⟩,_,rfl,_,_,_,rfl,rfl,h.part,by rw[cA,bw];omega,?_⟩
   rw[show bv s.part++[V.int (c.toNat:Int)]=bv (s.part++[c]) by rw[uH];rfl]
   have hpl':(s.part++[c]).length<=30001:=by rw[aF];show _+1<=_;omega
   unfold ZF at q;have o1:gm [r.di] H (L2.bM H r.di (.cM (bv (s.part++[c])))):=gm.bM (.head _);have h1:=h.aju o1 (p:=s.part++[c]) aB;have st1:gf (foot L r x) H (foot L r x) (L2.bM H r.di (.cM (bv (s.part++[c])))):=gf.of (o1.mono λy hy=>by rw[ak.mp hy];exact cC (j:=1) rfl) λ_ hy=>hy
   generalize s.part++[c]=p at q o1 h1 st1 hpl';generalize L2.bM H r.di (.cM (bv p))=H1 at o1 h1 st1;have hp1:H1 r.di=some (.cM (bv p)):=h1.part;refine⟨_,rfl,_,_,rfl,.inl (fH.of hp1),_,_,rfl,rfl,_,rfl,?_⟩;rw[cA];by_cases h9:p.length<9
   . rw[show decide (((p.length:Nat):Int)<9)=true from az (by omega)];rw[if_pos h9]at q;exact cQ (q.ok h1 st1)
   . rw[show decide (((p.length:Nat):Int)<9)=false from aq (by omega)];rw[if_neg h9]at q;refine cY ⟨_,rfl,3,rfl,_,_,rfl,fH.of hp1,λu hu=>?_⟩;have c1:sV (bv p) none (some 3)=bv (p.take 3):=by
      rw[show (some (3:Int))=some (((3:Nat):Int)) from rfl,NZ (by rw[cA];omega),pY]
     rw[c1];refine⟨u,_,rfl,fH.of aB,by rw[aY];omega,?_⟩
     have sm2:cZ H1 (L2.bM H1 u (.cM (bv (p.take 3)))):=λc o e=>by rw[aM (aD e hu)];exact e
     generalize L2.bM H1 u (.cM (bv (p.take 3)))=H2 at sm2;have h2:=h1.same sm2;have st2:gf (foot L r x) H (foot L r x) H2:=st1.trans (gf.same sm2 gf.refl);have hp2:=sm2 _ _ hp1;generalize hn:Rc28.num (p.take 3)=n at q;refine⟨_,rfl,_,_,rfl,rfl,_,rfl,?_⟩;by_cases h16:16384<n
     . rw[show decide (((n:Nat):Int)>16384)=true from az (by omega)];rw[if_pos h16]at q;refine cQ (q.Wm (c:=6) (s':={s with part:=[]}) (r':=r) rfl (by decide) ?_ (st2.trans (gf.of gm.refl qK)));have z:=h2.pd;exact⟨z.ob,z.failed,z.highest,z.out,z.evs,z.wt,z.now,z.nd⟩
     . rw[show decide (((n:Nat):Int)>16384)=false from aq (by omega)];rw[if_neg h16]at q;refine cY ⟨_,rfl,_,_,rfl,.inl (fH.of hp2),_,rfl,_,_,rfl,rfl,_,_,rfl,rfl,_,rfl,?_⟩;rw[cA];by_cases hlt:p.length<9+n
       . rw[show decide (((p.length:Nat):Int)<9+((n:Nat):Int))=true from az (by omega)];rw[if_pos hlt]at q;exact cQ (q.ok h2 st2)
       . rw[show decide (((p.length:Nat):Int)<9+((n:Nat):Int))=false from aq (by omega)];rw[if_neg hlt]at q;refine cY ⟨by decide,λe he=>⟨rfl,by rw[aM (aD h2.ob he)];exact h2.ob,T.cN,T.vp,qg,?_⟩⟩
         rw[JD];have neL:L≠e:=aD h2.ob he;have o3:gm [L] H2 (L2.bM (L2.bM H2 e (.cM [])) L (.ins A.dF dL (bI {r with di:=e}))):=(gm.new he).trans (gm.bM (.head _));obtain⟨h3,st3⟩:=h2.ahw he o3 aB (by rw[aM (Ne.symm neL)];exact aB)
         have hp3:L2.bM (L2.bM H2 e (.cM [])) L (.ins A.dF dL (bI {r with di:=e})) r.di=some (.cM (bv p)):=o3 _ _ hp2 (rH h.nd 1 0 rfl rfl);have rX:r.di∉foot L {r with di:=e} x:=λm=>by
          have hX:foot L {r with di:=e} x=(foot L r x).set 1 e:=rfl;rw[hX]at m;obtain⟨j,hj⟩:=jo.mp m;rw[List.getElem?_set]at hj;by_cases h1j:1=j
          . rw[if_pos h1j]at hj;split at hj
            . exact aD hp2 he (cz hj).symm
            . cases hj
          . rw[if_neg h1j]at hj;exact yQ h.nd hj (j:=1) rfl (Ne.symm h1j) rfl
         have q3:=q.acV (st2.trans st3);generalize L2.bM (L2.bM H2 e (.cM [])) L (.ins A.dF dL (bI {r with di:=e}))=H3 at o3 h3 st3 hp3 q3;obtain⟨k0,hk0⟩:∃k,p[3]? = some k:=⟨_,bf (by omega)⟩;obtain⟨f0,hf0⟩:∃k,p[4]? = some k:=⟨_,bf (by omega)⟩;rw[akM p hk0,akM p hf0]at q3;refine⟨_,rfl,_,rfl,_,_,_,_,rfl,rfl,fH.of hp3,jN (j:=3) rfl (v:=.int (k0.toNat:Int)) (by unfold bv;rw[bA,hk0];rfl),_,rfl,_,_,_,_,rfl,rfl,fH.of hp3,jN (j:=4) rfl (v:=.int (f0.toNat:Int)) (by unfold bv;rw[bA,hf0];rfl),_,rfl,5,rfl,9,rfl,_,_,rfl,fH.of hp3,λu4 hu4=>?_⟩
         have c4:sV (bv p) (some 5) (some 9)=bv ((p.drop 5).take 4):=by
          rw[show (some (5:Int))=some (((5:Nat):Int)) from rfl,show (some (9:Int))=some (((5:Nat):Int)+((4:Nat):Int)) from rfl,NT (by rw[cA];omega),pY,uq]
         rw[c4];refine⟨u4,_,rfl,fH.of aB,by rw[aY];omega,?_⟩
         have sm4:cZ H3 (L2.bM H3 u4 (.cM (bv ((p.drop 5).take 4)))):=λc o e=>by rw[aM (aD e hu4)];exact e
         generalize L2.bM H3 u4 (.cM (bv ((p.drop 5).take 4)))=H4 at sm4;have hp4:=sm4 _ _ hp3;refine⟨_,rfl,9,rfl,_,_,rfl,fH.of hp4,λu5 hu5=>?_⟩;have c5:sV (bv p) (some 9) none=bv (p.drop 9):=by
          rw[show (some (9:Int))=some (((9:Nat):Int)) from rfl,Hb (by rw[cA];omega),uq]
         rw[c5];have sm5:cZ H4 (L2.bM H4 u5 (.cM (bv (p.drop 9)))):=λc o e=>by rw[aM (aD e hu5)];exact e
         have e5:L2.bM H4 u5 (.cM (bv (p.drop 9))) u5=some (.cM (bv (p.drop 9))):=aB;generalize L2.bM H4 u5 (.cM (bv (p.drop 9)))=H5 at sm5 e5;have sm35:=sm4.trans sm5;have h5:=h3.same sm35;intro fr dfr hfr hdfr hne;refine⟨fr,dfr,k0.toNat,f0.toNat,Rc28.num ((p.drop 5).take 4)%2^31,u5,rfl,aB,λH6 hF hK=>⟨rfl,?_⟩⟩;have sm6:cZ H5 H6:=λc o e=>hK c o (by rw[aM (aD e hfr),aM (aD e hdfr)];exact e) (aD e hfr)
         have h6:=h5.same sm6;have sm36:=sm35.trans sm6;have frX:fr∉foot L {r with di:=e} x:=h5.wL.out hfr;have u5X:u5∉foot L {r with di:=e} x:=(h3.same sm4).wL.out hu5;refine⟨L,dL,{r with di:=e},x,{s with part:=[]},fr,k0.toNat,f0.toNat,_,u5,p.drop 9,rfl,h6,hkb,⟨rm.out,rm.evs⟩,⟨hF,sm6 _ _ e5,frX,u5X,f0.toNat_lt,by rw[bu];omega⟩,?_⟩
         exact q3.acV (gf.same sm36 gf.refl)
def pW(A:Ad)(H:Hp)(L dL:Addr)(r:gM)(X:List Addr)(s:Ra):Prop:=(∃x,gb A H L dL r x s/\X=foot L r x)\/(s.dead=true/\Ar A H L dL r s/\X=ft L r)
def Ar.wL(h:Ar A H L dL r s):U7 (ft L r) H:=λy hy=>by
 unfold ft at hy;simp only[aJ,cX,or_false]at hy;rcases hy with rfl|rfl|rfl
 . exact⟨_,h.ob⟩
 . exact⟨_,h.out⟩
 . obtain⟨es,z,_⟩:=h.evs;exact⟨_,z⟩
def pW.wL(h:pW A H L dL r X s):U7 X H:=by
 rcases h with⟨x,h,rfl⟩|⟨_,h,rfl⟩
 . exact h.wL
 . exact h.wL
def pW.pd(h:pW A H L dL r X s):Ar A H L dL r s:=by
 rcases h with⟨x,h,rfl⟩|⟨_,h,rfl⟩
 . exact h.pd
 . exact h
def Ar.same(h:Ar A H L dL r s)(sm:cZ H H'):Ar A H' L dL r s:=
 ⟨sm _ _ h.ob,h.failed,h.highest,sm _ _ h.out,h.evs.iV (cZ.iV sm) (cZ.iV (X:=[]) sm) (λm=>nomatch m),h.wt,h.now.iV (cZ.iV sm),h.nd⟩
def pW.same(h:pW A H L dL r X s)(sm:cZ H H'):pW A H' L dL r X s:=by
 rcases h with⟨x,h,e⟩|⟨hd,h,e⟩
 . exact .inl ⟨x,h.same sm,e⟩
 . exact .inr ⟨hd,h.same sm,e⟩
def akV(z:Sz n s)(hn:n<=30000):Rm s:=⟨by rw[bw];have:=z.out;omega,by rw[bw];have:=z.evs;omega⟩
def aiO(z:Sz n s)(hn:n<=30000):∀k,s.block=some k->k.bytes.length<=70000:=λk e=>by
 have:=z.pb;unfold bl at this;rw[e]at this;dsimp only at this;omega
inductive agr(A:Ad)(vs:List V)(H:Hp)(Q:VK)(_:XK):Prop
 |mk (L dL:Addr) (r:gM) (X:List Addr) (s:Ra) (c:UInt8) (n:Nat) (_:vs=[.ref L,.int (c.toNat:Int)]) (_:pW A H L dL r X s) (_:Sz n s) (_:n<30000) (_:∀r' X' H',pW A H' L dL r' X' (Rc28.byteIn s c)->gf X H X' H'->Q .non H')
def Yz(F:j5 K "byte_came" "byte_came" HD f fd)(T:Txt K mg A)(vX:jQ P w K mg base "first_byte_came" dW 1 ["line","byte"] (adK A))(vY:jQ P w K mg base "frame_byte_came" dW 13 ["line","byte"] (Qh A))(vL:jQ P w K mg base "fail_line" dW 3 ["line","code"] (adJ A)):dR P w K mg base dW 14 f fd ["line","byte"] (agr A):=by
 refine F.mZ (N:=["line","byte","fault"]) (λ_ _ _ s H _ Q _ hr h nd0=>?_)
 . obtain⟨L,dL,r,X,s,c,n,rfl,h,hz,hn,q⟩:=h;refine⟨_,(ao (cV (iB (aaO 0 rfl)) (aG ahS) bC)
    (ao (cV (bF yS (aaO 0 rfl) (bV bc (by rfl) T.gO aO (aa (cR T.JN) aK)) (bO _)) (aG (cB (i:=2) nd0 rfl (Or.inl rfl) (aU vX hr.lw (aa (pv 0) (aa (pv 1) aK))))) (aG (cB (i:=2) nd0 rfl (Or.inl rfl) (aU vY hr.lw (aa (pv 0) (aa (pv 1) aK))))))
    (aG (cV (bF uA (pv 2) (cR T.oA) (bO _)) (aG (dz (aU vL hr.lw (aa (pv 0) (aa (pv 2) aK))))) bC)))),?_⟩
   refine⟨rfl,h.pd.ob,T.cN,T.pN,tG,_,rfl,?_⟩;rw[h.pd.failed];rcases h with⟨x,h,rfl⟩|⟨hd,h,rfl⟩
   . rw[h.dead];refine cY ⟨rfl,h.ob,T.cN,T.ni,pM,_,_,rfl,.inr (T.J1 H),_,_,rfl,rfl,_,rfl,?_⟩;rw[h.start];have ok:=Ru hz c;have fin:∀t,t=Rc28.byteIn s c->wJ A L dL (foot L r x) H t (λv H1=>acJ (Ql (tOp rNe (iw 2) (tC (.int 0)))) (yX (uc (adJ A) [] E0 (fG (iw 0) (fG (iw 2) oO)))) J0 {nx:=λ_ H'=>Q .non H',rt:=Q} [some (.ref L),some (.int (c.toNat:Int)),some v] H1):=by
      rintro t rfl;refine⟨λr' x' H1 h1 st1=>?_,λcc s' r' H1 e hc h1 st1=>?_⟩
      . exact⟨_,rfl,rfl,_,rfl,cY (q r' _ H1 (.inl ⟨x',h1,rfl⟩) st1)⟩
      . refine⟨_,rfl,rfl,_,rfl,?_⟩;rw[Js,aq (by omega)];have ho:s'.out.length<=26*(n+1):=by
         have z:=ok.out;rw[e]at z;have:(Rc28.die s' cc).out.length=s'.out.length+_:=aF;omega
        refine cQ ⟨_,rfl,_,rfl,L,dL,r',s',cc,rfl,h1,by rw[bw];omega,λH2 h2 o2=>?_⟩
        refine q {r' with failed:=true} (ft L r') H2 (.inr ⟨by rw[e];rfl,by rw[e];exact h2,rfl⟩) (st1.trans (gf.of (o2.mono λy hy=>?_) λ_ hy=>hy))
        rcases aJ.mp hy with rfl|hy
        . exact .head _
        . rw[ak.mp hy];exact .tail _ (.head _)
     by_cases hs:s.start<24
     . show if decide (((s.start:Nat):Int)<((24:Nat):Int))=true then _ else _
       rw[show decide (((s.start:Nat):Int)<((24:Nat):Int))=true from az (by omega)];exact cQ ⟨_,rfl,_,rfl,L,dL,r,x,s,c,rfl,h,hs,fin _ (aat h.dead hs).symm⟩
     . show if decide (((s.start:Nat):Int)<((24:Nat):Int))=true then _ else _
       rw[show decide (((s.start:Nat):Int)<((24:Nat):Int))=false from aq (by omega)];exact cY ⟨_,rfl,_,rfl,L,dL,r,x,s,c,rfl,h,akV hz (by omega),by have:=hz.pb;omega,aiO hz (by omega),fin _ (aau h.dead hs).symm⟩
   . rw[hd];refine cQ (q r _ H (.inr ⟨?_,?_,rfl⟩) gf.refl)
     . unfold Rc28.byteIn;rw[if_pos hd];exact hd
     . unfold Rc28.byteIn;rw[if_pos hd];exact h
def acL(s:Ra)(c:UInt8)(b:Rb):Rc28.takes s (c::b)=if full s=true then (0,s) else ((Rc28.takes (Rc28.byteIn s c) b).1+1,(Rc28.takes (Rc28.byteIn s c) b).2):=rfl
inductive ags(A:Ad)(vs:List V)(H:Hp)(Q:VK)(_:XK):Prop
 |mk (L dL:Addr) (r:gM) (X:List Addr) (s:Ra) (p:Addr) (b:Rb) (n:Nat) (_:vs=[.ref L,.ref p]) (_:pW A H L dL r X s) (_:H p=some (.cM (bv b))) (_:p∉X) (_:b.length<=16384) (_:Sz n s) (_:n+b.length<=30000) (_:∀r' X' H',pW A H' L dL r' X' (Rc28.takes s b).2->gf X H X' H'->Q (.int ((Rc28.takes s b).1:Nat)) H')
def VH(F:j5 K "feed_bytes" "feed_bytes" Ff f fd)(T:Txt K mg A)(GF:jQ P w K mg base "must_wait" dW 2 ["line"] (agC A))(Gy:jQ P w K mg base "byte_came" dW 14 ["line","byte"] (agr A)):dR P w K mg base dW 15 f fd ["line","row"] (ags A):=by
 refine F.mZ (N:=["line","row","taken","byte"]) (λ_ _ _ s H _ _ _ hr h nd0=>?_)
 . obtain⟨L,dL,r,X,s,p,b,n,rfl,h,hp,hpX,hb,hz,hn,q⟩:=h;refine⟨_,(ao (cV (bF qF (bV bc (by rfl) T.gO aO (aa (pv 1) aK)) (cR T.abO) (bO _)) (aG (aZ (cR T.abQ))) bC)
    (ao (cB (i:=2) nd0 rfl (Or.inl rfl) bx)
    (ao (wj b8 rfl (zp (pv 1)) (jY (i:=3) nd0 rfl (Or.inl rfl)) (ao (cV (iB (aU GF hr.lw (aa (pv 0) aK))) (aG agb) bC)
    (ao (dz (aU Gy hr.lw (aa (pv 0) (aa (pv 3) aK))))
    (aG (MN (i:=2) nd0 rfl (Or.inl rfl) Rp bx)))))
    (aG (aZ (pv 2)))))),?_⟩
   refine⟨_,rfl,_,_,rfl,.inl (fH.of hp),_,_,rfl,rfl,_,rfl,?_⟩;rw[cA,show decide (((b.length:Nat):Int)>16384)=false from aq (by omega)];refine cY ⟨_,rfl,p,rfl,⟨_,fH.of hp⟩,Hd (K:=K) (a:=p) (xs:=bv b) (λi σ H2=>∃(t:Ra)(r':gM)(X':List Addr)(v:Option V),σ=[some (.ref L),some (.ref p),some (.int (i:Nat)),v]/\pW A H2 L dL r' X' t/\gf X H X' H2/\Sz (n+i) t /\
    (Rc28.takes s b).1=(Rc28.takes t (b.drop i)).1+i/\(Rc28.takes s b).2=(Rc28.takes t (b.drop i)).2)
    ⟨s,r,X,none,rfl,h,gf.refl,hz,rfl,rfl⟩ (λi σ H2 _ z=>?_) ?_ ?_⟩
   . obtain⟨t,r',X',v,_,_,st,_⟩:=z;exact fH.of (st.1 _ _ hp hpX)
   . rintro i y σ H2 hi ⟨t,r',X',v,rfl,h2,st,hzt,e1,e2⟩;obtain⟨c,hc,rfl⟩:=afc hi;obtain⟨hil,hce⟩:=bh.mp hc;have hdr:b.drop i=c::b.drop (i+1):=by rw[<-hce];exact iy hil
     rw[hdr,acL]at e1 e2;have pd:=h2.pd;refine⟨_,rfl,L,dL,r',t,rfl,pd.ob,pd.out,pd.wt,_,rfl,?_⟩
     cases hf:full t with
     |true=>
      rw[hf,if_pos rfl]at e1 e2;refine cQ ⟨_,rfl,?_⟩;rw[Nat.zero_add]at e1;rw[<-e1];exact q r' X' H2 (by rw[e2];exact h2) st
     |false=>
      rw[hf,if_neg aW]at e1 e2;refine cY ⟨_,rfl,_,rfl,L,dL,r',X',t,c,n+i,rfl,h2,hzt,by omega,λr3 X3 H3 h3 st3=>?_⟩;refine⟨_,rfl,_,_,rfl,rfl,Rc28.byteIn t c,r3,X3,some (.int (c.toNat:Int)),?_,h3,st.trans st3,Ru hzt c,?_,e2⟩
      . rfl
      . rw[e1];omega
   . rintro σ H2 ⟨t,r',X',v,rfl,h2,st,hzt,e1,e2⟩;rw[cA,lO]at e1 e2;rw[cA];refine⟨_,rfl,?_⟩;have e1':(Rc28.takes s b).1=b.length:=by rw[e1];exact Nat.zero_add _
     rw[<-e1'];exact q r' X' H2 (by rw[e2];exact h2) st
def iv(l:List Int):List V:=l.map V.int
def ac3(b:Rb):bv b=iv ((Rc28.codes b).map λ(n:Nat)=>(n:Int)):=by unfold bv iv Rc28.codes;rw[gH,gH];rfl
def nu(y:Rc28.Ans):List Int:=y.value::y.numbers.map λ(b:Nat)=>(b:Int)
def gb.Td(h:gb A H L dL r x s){b:Rb}(hu:H u=none)(o:gm [L] H H')(e:H' L=some (.ins A.dF dL (bI {r with dU:=u})))(eu:H' u=some (.cM (bv b))):
 gb A H' L dL {r with dU:=u} x {s with out:=b}/\gf (foot L r x) H (foot L {r with dU:=u} x) H':=by
 have hX:foot L {r with dU:=u} x=(foot L r x).set 5 u:=rfl;have g:∀y∈foot L {r with dU:=u} x,y∈foot L r x\/H y=none:=aaK (L:=L) (r:=r) (x:=x) (i:=5) hu;have o':gm (foot L {r with dU:=u} x) H H':=o.mono λy hy=>by rw[ak.mp hy];exact cC (j:=0) rfl
 have t:=h.Gf (j:=0) rfl;have kp:∀{j:Nat}{b:Addr},(foot L r x)[j]? = some b->j≠0->H' b=H b:=fun {j b} hj h0=>by
  obtain⟨ob,hob⟩:=h.wL b (cD hj);rw[hob];exact o _ _ hob λm=>yQ h.nd hj (j:=0) rfl h0 (ak.mp m)
 refine⟨⟨e,h.start,o _ _ h.part (rH h.nd 1 0 rfl rfl),h.settled,h.failed,h.dead,h.highest,h.window,h.first,h.said,eu,h.Gj.iV o t.1,h.tZ.iV o (rH h.nd 2 0 rfl rfl) t.2,h.yd.Yu g o' (kp (j:=3) rfl (by decide)) (kp (j:=4) rfl (by decide)) (cC (j:=3) rfl) (cC (j:=4) rfl),h.Dr,?_,h.wt,h.now.Yu g o',?_,λy hy=>?_⟩,o.mono λy hy=>by rw[ak.mp hy];exact cC (j:=0) rfl,g⟩
 . obtain⟨es,h1,h2⟩:=h.evs;exact⟨es,o _ _ h1 (rH h.nd 6 0 rfl rfl),bN h2 λ_ _ z=>z.Yu g o'⟩
 . rw[hX];exact Og h.nd (h.wL.out hu)
 . rw[hX]at hy;rcases kE hy with z|z
   . exact(h.wL.iV o λy hy=>by rw[ak.mp hy];exact⟨_,e⟩) y z
   . rw[z];exact⟨_,eu⟩
def Ar.Td(h:Ar A H L dL r s){b:Rb}(hu:H u=none)(o:gm [L] H H')(e:H' L=some (.ins A.dF dL (bI {r with dU:=u})))(eu:H' u=some (.cM (bv b))):
 Ar A H' L dL {r with dU:=u} {s with out:=b}/\gf (ft L r) H (ft L {r with dU:=u}) H':=by
 have hX:ft L {r with dU:=u}=(ft L r).set 1 u:=rfl;have g:∀y∈ft L {r with dU:=u},y∈ft L r\/H y=none:=λy hy=>by
  rw[hX]at hy;rcases kE hy with z|z
  . exact .inl z
  . rw[z];exact .inr hu
 have o':gm (ft L {r with dU:=u}) H H':=o.mono λy hy=>by rw[ak.mp hy];exact .head _
 refine⟨⟨e,h.failed,h.highest,eu,?_,h.wt,h.now.Yu g o',by rw[hX];exact Og h.nd (h.wL.out hu)⟩,o.mono λy hy=>by rw[ak.mp hy];exact .head _,g⟩
 obtain⟨es,h1,h2⟩:=h.evs;exact⟨es,o _ _ h1 (rH h.nd 2 0 rfl rfl),bN h2 λ_ _ z=>z.Yu g o'⟩
def pW.Td(h:pW A H L dL r X s){u:Addr}{b:Rb}(hu:H u=none)(o:gm [L] H H')(e:H' L=some (.ins A.dF dL (bI {r with dU:=u})))(eu:H' u=some (.cM (bv b))):
 ∃X',pW A H' L dL {r with dU:=u} X' {s with out:=b}/\gf X H X' H':=by
 rcases h with⟨x,h,rfl⟩|⟨hd,h,rfl⟩
 . obtain⟨h',st⟩:=h.Td hu o e eu;exact⟨_,.inl ⟨x,h',rfl⟩,st⟩
 . obtain⟨h',st⟩:=h.Td hu o e eu;exact⟨_,.inr ⟨hd,h',rfl⟩,st⟩
def gb.O4(h:gb A H L dL r x s){wt:Int}{ev:Option Rv}{evs:List Rv}(o:gm [L,r.gD] H H')(e:H' L=some (.ins A.dF dL (bI {r with eE:=a,bU:=wt})))(hes:H' r.gD=some (.cM (es.map V.ref)))(hp:Paired (λa e=>qI A (foot L r x) H a (some e)) es evs)(hw:wt=(ZR evs:Nat))(ha:qI A (foot L r x) H' a ev):gb A H' L dL {r with eE:=a,bU:=wt} x {s with now:=ev,events:=evs}:=by
 have hY:∀y∈[L,r.gD],y∈foot L r x:=λy hy=>by
  rcases aJ.mp hy with rfl|hy
  . exact cC (j:=0) rfl
  . rw[ak.mp hy];exact cC (j:=6) rfl
 have oX:gm (foot L r x) H H':=o.mono hY;have t:=h.agJ (j:=0) (k:=6) rfl rfl;refine⟨e,h.start,o _ _ h.part (CV h.nd 1 0 6 rfl rfl rfl),h.settled,h.failed,h.dead,h.highest,h.window,h.first,h.said,o _ _ h.out (CV h.nd 5 0 6 rfl rfl rfl),h.Gj.iV o t.1,h.tZ.iV o (CV h.nd 2 0 6 rfl rfl rfl) t.2,
  h.yd.iV o hY (CV h.nd 3 0 6 rfl rfl rfl) (CV h.nd 4 0 6 rfl rfl rfl),h.Dr,⟨es,hes,bN hp λ_ _ z=>z.iV oX⟩,hw,ha,h.nd,h.wL.iV o λy hy=>?_⟩
 rcases aJ.mp hy with rfl|hy
 . exact⟨_,e⟩
 . rw[ak.mp hy];exact⟨_,hes⟩
def Ar.O4(h:Ar A H L dL r s){wt:Int}{ev:Option Rv}{evs:List Rv}(o:gm [L,r.gD] H H')(e:H' L=some (.ins A.dF dL (bI {r with eE:=a,bU:=wt})))(hes:H' r.gD=some (.cM (es.map V.ref)))(hp:Paired (λa e=>qI A (ft L r) H a (some e)) es evs)(hw:wt=(ZR evs:Nat))(ha:qI A (ft L r) H' a ev):Ar A H' L dL {r with eE:=a,bU:=wt} {s with now:=ev,events:=evs}:=by
 have oX:gm (ft L r) H H':=o.mono λy hy=>by
  rcases aJ.mp hy with rfl|hy
  . exact .head _
  . rw[ak.mp hy];exact .tail _ (.tail _ (.head _))
 exact⟨e,h.failed,h.highest,o _ _ h.out (CV h.nd 1 0 2 rfl rfl rfl),⟨es,hes,bN hp λ_ _ z=>z.iV oX⟩,hw,ha,h.nd⟩
def pW.O4(h:pW A H L dL r X s){a:Addr}{wt:Int}{es:List Addr}{ev:Option Rv}{evs:List Rv}(o:gm [L,r.gD] H H')(e:H' L=some (.ins A.dF dL (bI {r with eE:=a,bU:=wt})))(hes:H' r.gD=some (.cM (es.map V.ref)))(hp:Paired (λa e=>qI A X H a (some e)) es evs)(hw:wt=(ZR evs:Nat))(ha:qI A X H' a ev):pW A H' L dL {r with eE:=a,bU:=wt} X {s with now:=ev,events:=evs}:=by
 rcases h with⟨x,h,rfl⟩|⟨hd,h,rfl⟩
 . exact .inl ⟨x,h.O4 o e hes hp hw ha,rfl⟩
 . exact .inr ⟨hd,h.O4 o e hes hp hw ha,rfl⟩
def pW.evs(h:pW A H L dL r X s):FN A X H r.gD s.events:=by
 rcases h with⟨x,h,rfl⟩|⟨hd,h,rfl⟩
 . exact h.evs
 . exact h.evs
def pW.now(h:pW A H L dL r X s):qI A X H r.eE s.now:=by
 rcases h with⟨x,h,rfl⟩|⟨hd,h,rfl⟩
 . exact h.now
 . exact h.now
def pW.LX(h:pW A H L dL r X s):L∈X/\r.gD∈X:=by
 rcases h with⟨x,h,rfl⟩|⟨hd,h,rfl⟩
 . exact⟨cC (j:=0) rfl,cC (j:=6) rfl⟩
 . exact⟨.head _,.tail _ (.tail _ (.head _))⟩
def Ap(X:List Addr)(H:Hp)(p:Addr):Prop:=∀y o,H y=some o->y∉X->y≠p
def Ap.of(o:gm X H H1)(hp:H1 p=none):Ap X H p:=λy u e n=>aD (o y u e n) hp
def Wf(A:Ad)(L dL:Addr)(X:List Addr)(H:Hp)(t:Ra)(a:List Int)(Q:VK):Prop:=∀r' X' p H',pW A H' L dL r' X' t->gf X H X' H'->H' p=some (.cM (iv a))->p∉X'->Ap X H p->Q (.ref p) H'
def d7(h:H p=none):cZ H (L2.bM H p o):=λc u e=>by rw[aM (aD e h)];exact e
inductive Zy(vs:List V)(H:Hp)(Q:VK)(_:XK):Prop
 |mk (m:Int) (_:vs=[.int m]) (_:Q (.int (room_ m:Nat)) H)
def aa1(F:j5 K "room_for" "room_for" K8 f fd)(T:Txt K mg A):dR P w K mg base dW 1 f fd ["most"] Zy:=by
 refine F.mZ (N:=["most"]) (λ_ _ _ _ _ _ Q _ _ h _=>?_)
 . obtain⟨m,rfl,q⟩:=h;refine⟨_,(aG (aZ (Dc (Df yR yR bx (pv 0) (cR T.R7)) (pv 0) bx))),?_⟩;refine vN (p1:=λi j=>decide (i<=j)) (p2:=λi j=>decide (i<=j)) (a:=1) (b:=m) (c:=65536) (λQ q=>q) (λQ q=>⟨_,rfl,q⟩) (λQ q=>q) _ ⟨_,rfl,?_⟩;unfold room_ at q;by_cases hm:1<=m/\m<=65536
   . rw[if_pos hm]at q;rw[az hm.1,az hm.2];have e:((m.toNat:Nat):Int)=m:=by omega
     rw[e]at q;exact cQ ⟨_,rfl,q⟩
   . rw[if_neg hm]at q;rw[show (decide ((1:Int)<=m)&&decide (m<=65536))=false by rw[Bool.eq_false_iff];simp;omega]
     exact cY q
inductive agB(A:Ad)(vs:List V)(H:Hp)(Q:VK)(_:XK):Prop
 |mk (L dL:Addr) (r:gM) (X:List Addr) (s:Ra) (m:Int) (_:vs=[.ref L,.int m]) (_:pW A H L dL r X s) (_:s.out.length+100<=sizeLine) (_:Wf A L dL X H (Rc28.does s (.take m)).1 (nu (Rc28.does s (.take m)).2) Q)
def VV(F:j5 K "take_bytes" "take_bytes" Fq f fd)(T:Txt K mg A)(qH:jQ P w K mg base "room_for" dW 1 ["most"] Zy):dR P w K mg base dW 2 f fd ["line","most"] (agB A):=by
 refine F.mZ (N:=["line","most","count","taken"]) (λ_ _ _ s H _ _ _ hr h nd0=>?_)
 . obtain⟨L,dL,r,X,s,m,rfl,h,hz,q⟩:=h;refine⟨_,(ao (cB (i:=2) nd0 rfl (Or.inl rfl) (bV (ad7 rfl) (by rfl) T.ain PyProof.Rows.Boot.«min» (aa (aU qH hr.lw (aa (pv 1) aK)) (aa (bV bc (by rfl) T.gO aO (aa (aaO 0 rfl) aK)) aK))))
    (ao (cB (i:=3) nd0 rfl (Or.inl rfl) (jz lG (aaO 0 rfl) uW (iu (pv 2))))
    (ao (abu 0 (jz lG (aaO 0 rfl) (iu (pv 2)) uW) rfl)
    (aG (aZ (iW El (jT (aa (pv 2) aK)) (pv 3))))))),?_⟩
   have pd:=h.pd;refine⟨_,rfl,m,rfl,rfl,pd.ob,T.cN,T.lu,mU,_,_,rfl,.inl (fH.of pd.out),_,_,rfl,?_⟩;have ek:(if (((bv s.out).length:Nat):Int)<((room_ m:Nat):Int) then (((bv s.out).length:Nat):Int) else ((room_ m:Nat):Int))=((min (room_ m) s.out.length:Nat):Int):=by
    rw[cA];split<;>omega
   rw[ek];have et:s.out.take (min (room_ m) s.out.length)=s.out.take (room_ m):=by rw[List.take_eq_take_iff];omega
   have ed:s.out.drop (min (room_ m) s.out.length)=s.out.drop (room_ m):=by
    by_cases hm:room_ m<=s.out.length
    . rw[Nat.min_eq_left hm]
    . rw[Nat.min_eq_right (by omega),lO,eU (by omega)]
   have el:(s.out.take (room_ m)).length=min (room_ m) s.out.length:=aY;unfold Rc28.does nu at q;dsimp only at q;rw[<-et,<-ed]at q;rw[<-et]at el;have hk:min (room_ m) s.out.length<=s.out.length:=jr _ _;generalize min (room_ m) s.out.length=k at q el hk;refine⟨rfl,pd.ob,T.cN,T.lu,mU,_,rfl,_,rfl,_,_,rfl,fH.of pd.out,λt ht=>?_⟩;rw[NZ (by rw[cA];exact hk),<-pY]
   have sm1:cZ H (L2.bM H t (.cM (bv (s.out.take k)))):=d7 ht;have e1:L2.bM H t (.cM (bv (s.out.take k))) t=some (.cM (bv (s.out.take k))):=aB;generalize L2.bM H t (.cM (bv (s.out.take k)))=H1 at sm1 e1;have pd1:=pd.same sm1;refine⟨rfl,pd1.ob,T.cN,T.lu,mU,_,rfl,_,rfl,_,_,rfl,fH.of pd1.out,λu hu=>?_⟩;rw[Hb (by rw[cA];exact hk),<-uq]
   have neL:L≠u:=aD pd1.ob hu;refine⟨rfl,by rw[aM neL];exact pd1.ob,T.cN,T.lu,qg,?_⟩
   rw[T8];have h1:=h.same sm1;have o2:gm [L] H1 (L2.bM (L2.bM H1 u (.cM (bv (s.out.drop k)))) L (.ins A.dF dL (bI {r with dU:=u}))):=(gm.new hu).trans (gm.bM (.head _));obtain⟨X',h2,st2⟩:=h1.Td hu o2 aB (b:=s.out.drop k) (by rw[aM (Ne.symm neL)];exact aB)
   have tX:t∉X:=h.wL.out ht;obtain⟨e2,tX'⟩:=st2.out e1 tX;generalize L2.bM (L2.bM H1 u (.cM (bv (s.out.drop k)))) L (.ins A.dF dL (bI {r with dU:=u}))=H2 at o2 h2 st2 e2;refine⟨_,rfl,by show 1<=sizeLine;decide,λv hv=>⟨_,rfl,_,_,_,_,rfl,rfl,aB,by rw[aM (aD e2 hv)];exact e2,by rw[cA,aY];show 1+_<=_;omega,λp hp=>?_⟩⟩
   have sm3:cZ H2 (L2.bM (L2.bM H2 v (.cM [.int (k:Int)])) p (.cM ([.int (k:Int)]++bv (s.out.take k)))):=(d7 hv).trans (d7 hp);refine q _ X' p _ (h2.same sm3) ((gf.same sm1 st2).trans (gf.same sm3 gf.refl)) ?_ ?_ (Ap.of ((gf.same sm1 st2).trans (gf.same (d7 hv) gf.refl)).1 hp)
   . rw[aB,ac3,el];rfl
   . exact(h2.same (d7 hv)).wL.out hp
inductive agw(A:Ad)(vs:List V)(H:Hp)(Q:VK)(_:XK):Prop
 |mk (L dL:Addr) (r:gM) (X:List Addr) (s:Ra) (n:Nat) (_:vs=[.ref L]) (_:pW A H L dL r X s) (_:Sz n s) (_:n<=30000) (_:Wf A L dL X H (Rc28.does s .event).1 (nu (Rc28.does s .event).2) Q)
def aej(e:Option Rv):Km e=nu {value:=(Rc28.kindOf e).1,numbers:=(Rc28.kindOf e).2}:=by
 cases e with
 |none=>rfl
 |some e=>cases e with
  |request i l b=>cases b<;>(unfold Km nu Rc28.kindOf bodyOf JQ Rc28.listOf;simp)
  |trailers i l=>unfold Km nu Rc28.kindOf bodyOf JQ Rc28.listOf;simp
  |data i d b=>cases b<;>(unfold Km nu Rc28.kindOf bodyOf JQ Rc28.listOf;simp)
  |reset i c=>unfold Km nu Rc28.kindOf bodyOf JQ Rc28.listOf;simp
  |away c=>unfold Km nu Rc28.kindOf bodyOf JQ Rc28.listOf;simp
def VL(F:j5 K "next_event" "next_event" Fj f fd)(T:Txt K mg A)(ql:jQ P w K mg base "nothing_told" dW 3 [] (Pb A))(m7:jQ P w K mg base "weight_of_event" dW 3 ["event"] (Le A))(vf:jQ P w K mg base "numbers_of_event" dW 1 ["event"] (abf A)):
 dR P w K mg base dW 4 f fd ["line"] (agw A):=by
 refine F.mZ (N:=["line"]) (λ_ _ _ s _ _ _ _ hr h _=>?_)
 . obtain⟨L,dL,r,X,s,n,rfl,h,hz,hn,q⟩:=h;refine⟨_,(ao (abu 0 (Jb ql hr.lw) rfl)
    (ao (cV (bF qF (bV bc (by rfl) T.gO aO (aa (aaO 0 rfl) aK)) bx (bO _)) (ao (abu 0 (uR bB PySem.F.slot_list_pop PySem.F.type_list_pop afT (aaO 0 rfl) (aa bx aK)) rfl)
    (aG (aa8 0 (aU m7 hr.lw (aa (aaO 0 rfl) aK)) Yp))) bC)
    (aG (aZ (aU vf hr.lw (aa (aaO 0 rfl) aK)))))),?_⟩
   refine⟨X,rfl,h.wL,λa H1 ha hev sm1=>?_⟩;have h1:=h.same sm1;obtain⟨es,hes,hp⟩:=h1.evs;have pd1:=h1.pd;have hLu:L≠r.gD:=yQ pd1.nd (i:=0) (j:=2) rfl rfl (by decide);refine⟨rfl,pd1.ob,T.cN,T.kj,qg,?_⟩;rw[Dd];have o2:gm [L,r.gD] H1 (L2.bM H1 L (.ins A.dF dL (bI {r with eE:=a}))):=gm.bM (.head _);have eL2:L2.bM H1 L (.ins A.dF dL (bI {r with eE:=a})) L=some (.ins A.dF dL (bI {r with eE:=a})):=aB;have eu2:L2.bM H1 L (.ins A.dF dL (bI {r with eE:=a})) r.gD=some (.cM (es.map V.ref)):=by rw[aM (Ne.symm hLu)];exact hes
   have oX:∀{H2:Hp},gm [L,r.gD] H1 H2->gm X H1 H2:=λo=>o.mono λy hy=>by
    rcases aJ.mp hy with rfl|hy
    . exact h.LX.1
    . rw[ak.mp hy];exact h.LX.2
   have ev2:=hev.iV (oX o2);generalize L2.bM H1 L (.ins A.dF dL (bI {r with eE:=a}))=H2 at o2 eL2 eu2 ev2;refine⟨rfl,eL2,T.cN,T.xJ,zR (r:={r with eE:=a}),_,_,rfl,.inl (fH.of eu2),_,_,rfl,rfl,_,rfl,?_⟩;rw[aC,fj hp];have ed:Rc28.does s .event=({s with now:=s.events.head?,events:=s.events.drop 1},{value:=(Rc28.kindOf s.events.head?).1,numbers:=(Rc28.kindOf s.events.head?).2}):=rfl;rw[ed]at q;dsimp only at q;rw[<-aej]at q
   cases hevs:s.events with
   |nil=>
    rw[hevs]at q hp;refine cY ⟨rfl,eL2,T.cN,T.kj,ou (r:={r with eE:=a}),X,a,none,rfl,ev2,λp H3 hp3 e3 sm3=>?_⟩;have hw:r.bU=((ZR []:Nat):Int):=by have:=pd1.wt;rw[hevs]at this;exact this
    have h2:=h1.O4 (a:=a) (wt:=r.bU) (es:=es) (ev:=none) (evs:=[]) o2 eL2 eu2 hp hw ev2;exact q _ X p H3 (h2.same sm3) (gf.same sm1 ((gf.of (oX o2) λ_ hy=>hy).trans (gf.same sm3 gf.refl))) e3 (h2.wL.out hp3) (Ap.of (gf.same sm1 (gf.of (oX o2) λ_ hy=>hy)).1 hp3)
   |cons e uT=>
    rw[hevs]at q hp;obtain⟨b,es',rfl⟩:∃b es',es=b::es':=by cases hp;exact⟨_,_,rfl⟩
    have hb:qI A X H1 b (some e):=by cases hp;assumption
    have hp':Paired (λa e=>qI A X H1 a (some e)) es' uT:=by cases hp;assumption
    have jB:=fj hp';show if decide (((uT.length+1:Nat):Int)>0)=true then _ else _
    rw[show decide (((uT.length+1:Nat):Int)>0)=true from az (by omega)];refine cQ ⟨rfl,eL2,T.cN,T.xJ,zR (r:={r with eE:=a}),.inl ⟨rfl,_,fH.of eu2⟩,_,_,0,0,V.ref b,rfl,rfl,eu2,by decide,by decide,?_,rfl,?_⟩
    . show seqIndex? 0 (List.length (V.ref b::es'.map V.ref))=some 0
      rw[bj,aC];unfold seqIndex?;simp
    . have e3:L2.bM H2 r.gD (.cM (es'.map V.ref)) L=some (.ins A.dF dL (bI {r with eE:=a})):=by rw[aM hLu];exact eL2
      rw[show (List.map V.ref (b::es')).eraseIdx 0=es'.map V.ref from rfl];refine⟨rfl,e3,T.cN,T.kj,qg,?_⟩;rw[Dd];dsimp only;have o4:gm [L,r.gD] H1 (L2.bM (L2.bM H2 r.gD (.cM (es'.map V.ref))) L (.ins A.dF dL (bI {r with eE:=b}))):=o2.trans ((gm.bM (.tail _ (.head _))).trans (gm.bM (.head _)));have eL4:L2.bM (L2.bM H2 r.gD (.cM (es'.map V.ref))) L (.ins A.dF dL (bI {r with eE:=b})) L=some (.ins A.dF dL (bI {r with eE:=b})):=aB;have eu4:L2.bM (L2.bM H2 r.gD (.cM (es'.map V.ref))) L (.ins A.dF dL (bI {r with eE:=b})) r.gD=some (.cM (es'.map V.ref)):=by rw[aM (Ne.symm hLu)];exact aB
      generalize L2.bM (L2.bM H2 r.gD (.cM (es'.map V.ref))) L (.ins A.dF dL (bI {r with eE:=b}))=H4 at o4 eL4 eu4;have hl:(Rc28.listOf (some e)).length<=100000:=by
       have:=hz.ev e (by rw[hevs];exact .head _)
       cases e with
       |request i l b=>have:l.length<=n:=this.1;show l.length<=_;omega
       |trailers i l=>have:l.length<=n:=this.1;show l.length<=_;omega
       |data i d b=>exact bW _
       |reset i c=>exact bW _
       |away c=>exact bW _
      refine⟨rfl,eL4,T.cN,T.pG,rT (r:={r with eE:=b}),rfl,eL4,T.cN,T.kj,ou (r:={r with eE:=b}),X,b,e,rfl,hb.iV (oX o4),hl,λH5 sm5=>?_⟩;refine⟨_,_,rfl,rfl,_,_,sm5 _ _ eL4,qg,?_⟩;rw[wM];have hw:r.bU-((sizeOf_ e:Nat):Int)=((ZR uT:Nat):Int):=by
       have:=pd1.wt;rw[hevs]at this;rw[this];unfold ZR;rw[bG,jq];omega
      rw[show ({r with eE:=b}:gM).bU=r.bU from rfl,hw];have o6:gm [L,r.gD] H1 (L2.bM H5 L (.ins A.dF dL (bI {r with eE:=b,bU:=((ZR uT:Nat):Int)}))):=o4.trans ((cZ.iV sm5).trans (gm.bM (.head _)));have eL6:L2.bM H5 L (.ins A.dF dL (bI {r with eE:=b,bU:=((ZR uT:Nat):Int)})) L=some (.ins A.dF dL (bI {r with eE:=b,bU:=((ZR uT:Nat):Int)})):=aB;have eu6:L2.bM H5 L (.ins A.dF dL (bI {r with eE:=b,bU:=((ZR uT:Nat):Int)})) r.gD=some (.cM (es'.map V.ref)):=by rw[aM (Ne.symm hLu)];exact sm5 _ _ eu4
      generalize L2.bM H5 L (.ins A.dF dL (bI {r with eE:=b,bU:=((ZR uT:Nat):Int)}))=H6 at o6 eL6 eu6;refine⟨rfl,eL6,T.cN,T.kj,ou (r:={r with eE:=b,bU:=((ZR uT:Nat):Int)}),X,b,some e,rfl,hb.iV (oX o6),λp H7 hp7 e7 sm7=>?_⟩;have h6:=h1.O4 (a:=b) (wt:=((ZR uT:Nat):Int)) (es:=es') (ev:=some e) (evs:=uT) o6 eL6 eu6 hp' rfl (hb.iV (oX o6));exact q _ X p H7 (h6.same sm7) (gf.same sm1 ((gf.of (oX o6) λ_ hy=>hy).trans (gf.same sm7 gf.refl))) e7 (h6.wL.out hp7) (Ap.of (gf.same sm1 (gf.of (oX o6) λ_ hy=>hy)).1 hp7)
def Wf.as{t:Ra}{a:List Int}(q:Wf A L dL X H t a Q)(e:t=s)(h:pW A H L dL r X s)(sm:cZ H H1)(hp:H1 p=none)(ex:xs=iv a):Q (.ref p) (L2.bM H1 p (.cM xs)):=by
 subst e;refine q r X p _ ((h.same sm).same (d7 hp)) (gf.same sm (gf.same (d7 hp) gf.refl)) (by rw[aB,ex]) ((h.same sm).wL.out hp) (Ap.of (cZ.iV sm) hp)
inductive M8(A:Ad)(vs:List V)(H:Hp)(Q:VK)(_:XK):Prop
 |mk (L dL:Addr) (r:gM) (X:List Addr) (s:Ra) (n:Nat) (k m:Int) (_:vs=[.ref L,.int k,.int m]) (_:pW A H L dL r X s) (_:Sz n s) (_:n<=30000) (_:Wf A L dL X H (Rc28.does s (.header k m)).1 (nu (Rc28.does s (.header k m)).2) Q)
def Tr(F:j5 K "header_told" "header_told" Ci f fd)(T:Txt K mg A)(qH:jQ P w K mg base "room_for" dW 1 ["most"] Zy):dR P w K mg base dW 2 f fd ["line","k","most"] (M8 A):=by
 refine F.mZ (N:=["line","k","most","headers","name","value","length"]) (λ_ _ _ s H _ _ _ hr h nd0=>?_)
 . obtain⟨L,dL,r,X,s,n,k,m,rfl,h,hz,hn,q⟩:=h;refine⟨_,(ao (cB (i:=3) nd0 rfl (Or.inl rfl) (aQ (aaO 0 rfl) rfl))
    (ao (cV (uB (bF yS (pv 1) bx (bO _)) (rZ (bF TJ (pv 1) (bV bc (by rfl) T.gO aO (aa (pv 3) aK)) (bO _)))).pt (aG (aZ (jT (aa (cR T.Mf) aK)))) bC)
    (ao (cB (i:=4) nd0 rfl (Or.inl rfl) (aQ (vU pZ (pv 3) (pv 1) (λ_ _=>rfl)) rfl))
    (ao (cB (i:=5) nd0 rfl (Or.inl rfl) (aQ (vU pZ (pv 3) (pv 1) (λ_ _=>rfl)) rfl))
    (ao (cB (i:=6) nd0 rfl (Or.inl rfl) (iW oG (bV bc (by rfl) T.gO aO (aa (pv 4) aK)) (bV bc (by rfl) T.gO aO (aa (pv 5) aK))))
    (ao (cV (bF qF (pv 6) (aU qH hr.lw (aa (pv 2) aK)) (bO _)) (aG (aZ (jT (aa (cR T.R9) aK)))) bC)
    (aG (aZ (iW El (iW El (jT (aa (pv 6) (aa (bV bc (by rfl) T.gO aO (aa (pv 4) aK)) aK))) (pv 4)) (pv 5)))))))))),?_⟩
   obtain⟨dx,re,h1,_,⟨as,h3,h4⟩,_⟩:=id h.now;refine⟨rfl,h.pd.ob,T.cN,T.kj,ou,_,_,_,_,_,rfl,h1,T.mK,T.rG,wW,?_⟩;have jB:=fj h4;refine⟨_,rfl,_,_,rfl,rfl,_,rfl,?_⟩;have none1:(if k<0 then none else (Rc28.listOf s.now)[k.toNat]?)=none->(Rc28.does s (.header k m))=(s,Rc28.refused):=λe=>by
    show (match (if k<0 then none else (Rc28.listOf s.now)[k.toNat]?) with|none=>_|some h=>_)=_
    rw[e]
   by_cases hk:k<0
   . rw[show decide (k<0)=true from az hk];have e:=none1 (if_pos hk);rw[e]at q;exact cQ (cQ ⟨by show 1<=sizeLine;decide,λp hp=>q.as rfl h (λ_ _ e=>e) hp rfl⟩)
   . rw[show decide (k<0)=false from aq hk];refine cY ⟨_,rfl,_,rfl,_,_,rfl,.inl (fH.of h3),_,_,rfl,rfl,_,rfl,?_⟩;rw[aC,jB];obtain⟨j,rfl⟩:∃j:Nat,k=(j:Int):=⟨k.toNat,by omega⟩;by_cases hj:(Rc28.listOf s.now).length<=j
     . rw[show decide ((j:Int)>=(((Rc28.listOf s.now).length:Nat):Int))=true from az (by omega)];have e:=none1 (by rw[if_neg hk,cI];exact gQ hj)
       rw[e]at q;exact cQ ⟨by show 1<=sizeLine;decide,λp hp=>q.as rfl h (λ_ _ e=>e) hp rfl⟩
     . rw[show decide ((j:Int)>=(((Rc28.listOf s.now).length:Nat):Int))=false from aq (by omega)];obtain⟨hh,hhj⟩:∃hh,(Rc28.listOf s.now)[j]? = some hh:=⟨_,bf (by omega)⟩;obtain⟨a,ha,dxh,na,va,i1,i2,i3,_⟩:=gW h4 hhj;have hat:atI (as.map V.ref) (j:Int)=some (.ref a):=jN rfl (by rw[bA,ha];rfl)
       refine cY ⟨_,rfl,_,rfl,_,_,_,_,rfl,rfl,fH.of h3,hat,_,_,_,_,_,rfl,i1,T.iK,T.gP,ir,?_⟩;refine⟨_,rfl,_,rfl,_,_,_,_,rfl,rfl,fH.of h3,hat,_,_,_,_,_,rfl,i1,T.iK,T.jD,j7,?_⟩;refine⟨_,rfl,_,_,rfl,.inl (fH.of i2),_,rfl,_,_,rfl,.inl (fH.of i3),_,_,rfl,rfl,?_⟩;refine⟨_,rfl,_,rfl,m,rfl,_,_,rfl,rfl,_,rfl,?_⟩;rw[cA,cA];have ed:Rc28.does s (.header (j:Int) m)=if room_ m<hh.1.length+hh.2.length then (s,{value:=-2}) else (s,{value:=((hh.1.length+hh.2.length:Nat):Int),numbers:=hh.1.length::Rc28.codes (hh.1++hh.2)}):=by
        show (match (if (j:Int)<0 then none else (Rc28.listOf s.now)[(j:Int).toNat]?) with|none=>_|some h=>_)=_
        rw[if_neg hk,cI,hhj]
       rw[ed]at q;have hhl:hl hh<=4096+n:=by
        have hmem:=cD hhj
        cases hs:s.now with
        |none=>rw[hs]at hmem;cases hmem
        |some ev=>
         rw[hs]at hmem;have hzz:=hz.now ev hs
         cases ev with
         |request i l last=>exact hzz.2 hh hmem
         |trailers i l=>exact hzz.2 hh hmem
         |data i b last=>cases hmem
         |reset i c=>cases hmem
         |away c=>cases hmem
       unfold hl at hhl;by_cases hr2:room_ m<hh.1.length+hh.2.length
       . rw[show decide (((hh.1.length:Nat):Int)+((hh.2.length:Nat):Int)>((room_ m:Nat):Int))=true from az (by omega)];rw[if_pos hr2]at q;exact cQ ⟨by show 1<=sizeLine;decide,λp hp=>q.as rfl h (λ_ _ e=>e) hp rfl⟩
       . rw[show decide (((hh.1.length:Nat):Int)+((hh.2.length:Nat):Int)>((room_ m:Nat):Int))=false from aq (by omega)];rw[if_neg hr2]at q;refine cY ⟨_,rfl,_,rfl,_,_,rfl,.inl (fH.of i2),by show 2<=sizeLine;decide,λp1 hp1=>?_⟩
         refine⟨_,rfl,_,_,_,_,rfl,rfl,aB,by rw[aM (aD i2 hp1)];exact i2,by rw[cA,bw];show 2+_<=_;omega,λp2 hp2=>?_⟩
         have sm1:cZ H (L2.bM H p1 (.cM [.int (((hh.1.length:Nat):Int)+((hh.2.length:Nat):Int)),.int (((bv hh.1).length:Nat):Int)])):=d7 hp1;refine⟨_,rfl,_,_,_,_,rfl,rfl,aB,(sm1.trans (d7 hp2)) _ _ i3,by rw[aF,cA,cA,bw];show 2+_+_<=_;omega,λp3 hp3=>?_⟩
         refine q.as rfl h (sm1.trans (d7 hp2)) hp3 ?_;unfold nu iv;rw[cA,ac3,ac3];unfold iv Rc28.codes;simp only[bG,dm,gH,jU,mD];rfl
inductive Uo(A:Ad)(vs:List V)(H:Hp)(Q:VK)(_:XK):Prop
 |mk (L dL:Addr) (r:gM) (X:List Addr) (s:Ra) (n:Nat) (m:Int) (_:vs=[.ref L,.int m]) (_:pW A H L dL r X s) (_:Sz n s) (_:n<=30000) (_:Wf A L dL X H (Rc28.does s (.data m)).1 (nu (Rc28.does s (.data m)).2) Q)
def YJ(F:j5 K "data_told" "data_told" HS f fd)(T:Txt K mg A)(qH:jQ P w K mg base "room_for" dW 1 ["most"] Zy):dR P w K mg base dW 2 f fd ["line","most"] (Uo A):=by
 refine F.mZ (N:=["line","most","body"]) (λ_ _ _ s H _ _ _ hr h nd0=>?_)
 . obtain⟨L,dL,r,X,s,n,m,rfl,h,hz,hn,q⟩:=h;refine⟨_,(ao (cB (i:=2) nd0 rfl (Or.inl rfl) (aQ (aaO 0 rfl) rfl))
    (ao (cV (bF uA (aQ (aaO 0 rfl) rfl) (cR T.afd) (bO _)) (aG (aZ (jT (aa (cR T.Mf) aK)))) bC)
    (ao (cV (bF qF (bV bc (by rfl) T.gO aO (aa (pv 2) aK)) (aU qH hr.lw (aa (pv 1) aK)) (bO _)) (aG (aZ (jT (aa (cR T.R9) aK)))) bC)
    (aG (aZ (iW El (jT (aa (bV bc (by rfl) T.gO aO (aa (pv 2) aK)) aK)) (pv 2))))))),?_⟩
   obtain⟨dx,re,h1,h2,_,h5,_⟩:=id h.now;refine⟨rfl,h.pd.ob,T.cN,T.kj,ou,_,_,_,_,_,rfl,h1,T.mK,T.v9,BR,?_⟩;refine⟨rfl,h.pd.ob,T.cN,T.kj,ou,_,_,_,_,_,rfl,h1,T.mK,T.wg,xH,rfl,_,rfl,?_⟩;rw[h2.1];have no:(∀i b l,s.now≠some (.data i b l))->(JQ s.now).1≠3/\Rc28.does s (.data m)=(s,Rc28.refused):=λe=>by
    unfold Rc28.does
    cases hs:s.now with
    |none=>exact⟨by decide,rfl⟩
    |some ev=>
     cases ev with
     |data i b l=>exact absurd hs (e i b l)
     |request i l b=>exact⟨(by decide:(1:Nat)≠3),rfl⟩
     |trailers i l=>exact⟨(by decide:(2:Nat)≠3),rfl⟩
     |reset i c=>exact⟨(by decide:(4:Nat)≠3),rfl⟩
     |away c=>exact⟨(by decide:(5:Nat)≠3),rfl⟩
   by_cases hd:∃i b l,s.now=some (.data i b l)
   . obtain⟨i,b,l,hs⟩:=hd;have ed:Rc28.does s (.data m)=if room_ m<b.length then (s,{value:=-2}) else (s,{value:=(b.length:Nat),numbers:=Rc28.codes b}):=by
      unfold Rc28.does;rw[hs]
     rw[ed]at q;have hb:b.length<=n:=hz.now _ hs;rw[hs]at h5 ⊢;have h5:H re.body=some (.cM (bv b)):=h5;refine cY ⟨_,rfl,_,_,rfl,.inl (fH.of h5),_,rfl,m,rfl,_,_,rfl,rfl,_,rfl,?_⟩;rw[cA];by_cases hr2:room_ m<b.length
     . rw[show decide (((b.length:Nat):Int)>((room_ m:Nat):Int))=true from az (by omega)];rw[if_pos hr2]at q;exact cQ ⟨by show 1<=sizeLine;decide,λp hp=>q.as rfl h (λ_ _ e=>e) hp rfl⟩
     . rw[show decide (((b.length:Nat):Int)>((room_ m:Nat):Int))=false from aq (by omega)];rw[if_neg hr2]at q;refine cY ⟨_,rfl,_,_,rfl,.inl (fH.of h5),by show 1<=sizeLine;decide,λp1 hp1=>?_⟩
       refine⟨_,rfl,_,_,_,_,rfl,rfl,aB,by rw[aM (aD h5 hp1)];exact h5,by rw[cA,bw];show 1+_<=_;omega,λp2 hp2=>?_⟩
       refine q.as rfl h (d7 hp1) hp2 ?_;unfold nu iv;rw[cA,ac3];rfl
   . obtain⟨e1,e2⟩:=no λi b l z=>hd ⟨i,b,l,z⟩;rw[e2]at q;rw[show decide (V.int (((JQ s.now).1:Nat):Int)=V.int 3)=decide ((JQ s.now).1=3) from Jt _ 3,aq e1];exact cQ ⟨by show 1<=sizeLine;decide,λp hp=>q.as rfl h (λ_ _ e=>e) hp rfl⟩
def ae1:List (List Str):=([[":authority",""],[":method","GET"],[":method","POST"],[":path","/"],[":path","/index.html"],[":scheme","http"],[":scheme","https"],[":status","200"],[":status","204"],[":status","206"],[":status","304"],[":status","400"],[":status","404"],[":status","500"],["accept-charset",""],["accept-encoding","gzip, deflate"],["accept-language",""],["accept-ranges",""],["accept",""],["access-control-allow-origin",""],["age",""],["allow",""],["authorization",""],["cache-control",""],["content-disposition",""],["content-encoding",""],["content-language",""],["content-length",""],["content-location",""],["content-range",""],["content-ty","pe",""],["cookie",""],["date",""],["etag",""],["expect",""],["expires",""],["from",""],["host",""],["if-match",""],["if-modified-since",""],["if-none-match",""],["if-range",""],["if-unmodified-since",""],["last-modified",""],["link",""],["location",""],["max-forwards",""],["proxy-authenticate",""],["proxy-authorization",""],["range",""],["referer",""],["refresh",""],["retry-after",""],["server",""],["set-cookie",""],["strict-transport-security",""],["transfer-encoding",""],["user-agent",""],["vary",""],["via",""],["www-authenticate",""]]:List (List String)).map λl=>l.map Str.ofString
def Yd(ss:List Str)(h:Rh):Bool:=decide (2<=ss.length)&&(decide (h.1.map (·.toNat)=(Txt.join "" ss.dropLast).cps.toList)&&(decide (h.2.map (·.toNat)=(ss.getLastD "").cps.toList)&&decide (h.1.length<=1000/\h.2.length<=1000/\(ss.dropLast.map (·.length)).sum<=1000)))
def Ub:(ae1.length=Rc28.FIXED.length)/\((ae1.zip Rc28.FIXED).all λp=>Yd p.1 p.2)=true:=by decide +kernel
theorem TV{α β:Type}{p:α->β->Bool}:∀{l:List α}{m:List β},l.length=m.length->((l.zip m).all λq=>p q.1 q.2)=true->Paired (λa b=>p a b=true) l m
 |[],[],_,_=>.nil
 |[],_::_,h,_=>by simp at h
 |_::_,[],h,_=>by simp at h
 |a::l,b::m,h,z=>by
  rw[List.zip_cons_cons,jK,bQ]at z;exact .cons z.1 (TV (by simpa using h) z.2)
def agn:Paired (λss h=>Yd ss h=true) ae1 Rc28.FIXED:=TV Ub.1 Ub.2
def aiE(K:Fg)(A:Ad):Prop:=∃as:List Addr,(∀H,Bx K H A.zJ (as.map V.ref))/\Paired (λa (ss:List Str)=>∀H,Bx K H a (ss.map V.str)) as ae1
inductive HdF(A:Ad)(F:Addr->Prop)(H:Hp)(a:Addr)(h:Rh):Prop
 |mk (dx:_) (n:_) (v:_) (_:H a=some (.ins A.Header dx (rF n v))) (_:H n=some (.cM (bv h.1))) (_:H v=some (.cM (bv h.2))) (_:F a) (_:F n) (_:F v)
def HdF.at{F:Addr->Prop}(x:HdF A F H a h)(g:∀y,F y->y∉X):sU A X H a h:=by
 obtain⟨dx,n,v,h1,h2,h3,f1,f2,f3⟩:=x;exact⟨dx,n,v,h1,h2,h3,g _ f1,g _ f2,g _ f3⟩
def HdF.mono{F G:Addr->Prop}(x:HdF A F H a h)(g:∀y o,F y->H y=some o->G y/\H' y=some o):HdF A G H' a h:=by
 obtain⟨dx,n,v,h1,h2,h3,f1,f2,f3⟩:=x;exact⟨dx,n,v,(g _ _ f1 h1).2,(g _ _ f2 h2).2,(g _ _ f3 h3).2,(g _ _ f1 h1).1,(g _ _ f2 h2).1,(g _ _ f3 h3).1⟩
def cZ.none{H H':Hp}(s:cZ H H'){y:Addr}(h:H' y=none):H y=none:=by
 cases e:H y with
 |none=>rfl
 |some o=>rw[s y o e]at h;cases h
def afm(xs:List V)(h:0<xs.length):sV xs none (some (-1))=xs.dropLast:=by
 unfold sV;have e2:HT.uX xs.length xs.length (some (-1))=xs.length-1:=by
  unfold HT.uX;dsimp only;rw[if_pos (by decide)];omega
 have e1:HT.uX xs.length 0 none=0:=rfl;rw[e1,e2,lH,Nat.sub_zero,List.dropLast_eq_take]
inductive agt(K:Fg)(A:Ad)(vs:List V)(H:Hp)(Q:VK)(_:XK):Prop
 |mk (t:Addr) (ss:List Str) (h:Rh) (_:vs=[.ref t]) (_:(∀H,Bx K H t (ss.map V.str))) (_:Yd ss h=true) (_:∀a H',HdF A (λy=>H y=none) H' a h->cZ H H'->Q (.ref a) H')
def QT(F:j5 K "fixed_header" "fixed_header" Aa f fd)(T:Txt K mg A)(dH:jQ P w K mg base "bytes_of_text" dW 1 ["text"] Li)(mF:DQ P w K mg base "Header" A.Header 1 ["self","name","value"] (wH A)):
 dR P w K mg base dW 3 f fd ["row"] (agt K A):=by
 refine F.mZ (N:=["row","name"]) (λ_ _ _ _ H _ _ _ hr h nd0=>?_)
 . obtain⟨t,ss,h,rfl,ht,hc,q⟩:=h;refine⟨_,(ao (cB (i:=1) nd0 rfl (Or.inl rfl) (ahM K5 (jz ajK (pv 0) uW (iu (af8 acS bx)))))
    (aG (aZ (qt mF hr.lw (aa (aU dH hr.lw (aa (pv 1) aK)) (aa (aU dH hr.lw (aa (vU Ys (pv 0) (af8 acS bx) (λ_ _=>rfl)) aK)) aK)))))),?_⟩
   unfold Yd at hc;simp only[bQ,bK]at hc;obtain⟨hl,hn,hv,hz1,hz2,hz3⟩:=hc;have hne:ss≠[]:=by rintro rfl;simp at hl
   have hml:(ss.map V.str).length=ss.length:=aC ..;refine⟨⟨_,rfl⟩,_,rfl,_,rfl,_,rfl,_,_,rfl,ht H,?_,λp hp=>?_⟩
   . rintro⟨_,z⟩;unfold HT.uX at z;dsimp only at z;rw[if_pos (by decide)]at z;omega
   rw[afm _ (by omega),<-List.map_dropLast];refine⟨_,p,ss.dropLast,rfl,rfl,.inr (Bx.of aB),by show _+ss.dropLast.length*0<=_;omega,?_⟩
   have sm0:cZ H (L2.bM H p (.tup (ss.dropLast.map V.str))):=d7 hp;generalize L2.bM H p (.tup (ss.dropLast.map V.str))=H0 at sm0;refine⟨_,rfl,_,h.1,rfl,hn,hz1,λp1 H1 hp1 e1 sm1=>?_⟩;have elast:ss.map V.str=ss.dropLast.map V.str++[V.str (ss.getLastD "")]:=by
    have:ss=ss.dropLast++[ss.getLastD ""]:=by
     rw[List.getLastD_eq_getLast?,List.getLast?_eq_some_getLast hne];exact(jC hne).symm
    conv=>lhs;rw[this]
    rw[dm];rfl
   refine⟨_,rfl,_,rfl,_,_,_,_,rfl,rfl,ht H1,by rw[elast];exact ae5 _ _,_,h.2,rfl,hv,hz2,λp2 H2 hp2 e2 sm2=>?_⟩
   intro x dx hx hdx hnx;refine⟨x,dx,p1,p2,rfl,aB,rfl,?_⟩;rw[jc];have sm3:cZ H2 (L2.bM (L2.bM H2 dx (.own x)) x (.ins A.Header dx (rF p1 p2))):=λc u e=>by rw[aM (aD e hx),aM (aD e hdx)];exact e
   have sm02:=(sm0.trans sm1).trans sm2;exact q x _ ⟨dx,p1,p2,aB,sm3 _ _ (sm2 _ _ e1),sm3 _ _ e2,cZ.none sm02 hx,cZ.none sm0 hp1,cZ.none (sm0.trans sm1) hp2⟩ (sm02.trans sm3)
inductive akc(A:Ad)(H1:Hp)(D:Addr)(hs:List Rh)(H2:Hp):Prop
 |mk (_:cZ H1 H2) (as:List Addr) (_:H2 D=some (.cM (as.map V.ref))) (_:Paired (HdF A (λy=>H1 y=none/\y≠D) H2) as hs)
def adL(A:Ad):Sp:=λvs H Q _=>vs=[]/\∀fx fs H',H fx=none->H' fx=some (.cM (fs.map V.ref))->Paired (HdF A (λy=>H y=none/\y≠fx) H') fs Rc28.FIXED->cZ H H'->Q (.ref fx) H'
def Om(F:j5 K "fixed_headers" "fixed_headers" yE f fd)(T:Txt K mg A)(R:aiE K A)(zB:jQ P w K mg base "fixed_header" dW 3 ["row"] (agt K A)):dR P w K mg base dW 4 f fd [] (adL A):=by
 refine F.mZ (N:=["row"]) (λ_ _ _ _ H _ _ _ hr h nd0=>?_)
 . obtain⟨rfl,q⟩:=h;obtain⟨rs,hrs,hrp⟩:=R;refine⟨_,(aG (aZ (T4 rfl nd0 (acs (cR T.X7)) (xN (own:=[("row",0)]) (by kernel_rfl)) (λ_ _ _ _ _=>jY (i:=0) nd0 rfl (Or.inl rfl)) (λ_ _ _ _ _=>Br)
    (λ_ _ _ _ _=>aU zB hr.lw (aa (pv 0) aK))))),?_⟩
   refine⟨A.zJ,rfl,⟨_,hrs H⟩,λD hD=>afP (K:=K) (a:=A.zJ) (λi H2=>akc A H D (Rc28.FIXED.take i) H2) ⟨d7 hD,[],aB,.nil⟩ (λi H2 _ _=>hrs H2) ?_ ?_⟩
   . rintro i y H2 hi ⟨sm,as,e1,e2⟩;obtain⟨ra,hra,rfl⟩:=BW hi;obtain⟨ss,hss,hsq⟩:=L2.gW hrp hra;obtain⟨h,hh,hc⟩:=L2.gW agn hss;refine⟨rfl,_,rfl,ra,ss,h,rfl,hsq,hc,λa H3 hd sm3=>?_⟩;have e3:=sm3 _ _ e1;refine⟨_,e3,?_,?_⟩
     . rw[aC,fj e2,aY];exact iQ (jr _ _) (by decide +kernel)
     . refine⟨λc u e=>?_,as++[a],by rw[aB,dm];rfl,?_⟩
       . rw[aM (aD e hD)];exact sm3 _ _ (sm _ _ e)
       . rw[pq hh];refine tL (bN e2 λ_ _ z=>z.mono λy o f eo=>⟨f,by rw[aM f.2];exact sm3 _ _ eo⟩) (hd.mono λy o f eo=>?_)
         have hyD:y≠D:=λz=>by rw[z,e1]at f;cases f
         exact⟨⟨cZ.none sm f,hyD⟩,by rw[aM hyD];exact eo⟩
   . rintro H2 ⟨sm,as,e1,e2⟩;rw[aC,fj hrp,Ub.1,gh]at e2;exact q D as H2 hD e1 e2 sm
inductive Qk(A:Ad)(vs:List V)(H:Hp)(Q:VK)(_:XK):Prop
 |mk (t dt:Addr) (_:vs=[.ref t]) (_:H t=some (.ins A.Table dt [])) (_:∀fx nf fs H',H fx=none->H nf=none->nf≠fx->H' t=some (.ins A.Table dt (mH fx nf 0 4096))->H' nf=some (.cM [])->H' fx=some (.cM (fs.map V.ref))->Paired (HdF A (λy=>H y=none/\y≠fx/\y≠nf) H') fs Rc28.FIXED->wN t H H'->Q .non H')
def Vx(F:j5 K "__init__" "Table.__init__" Ew f fd)(T:Txt K mg A)(yf:jQ P w K mg base "fixed_headers" dW 4 [] (adL A)):dR P w K mg base dW 5 f fd ["self"] (Qk A):=by
 refine F.mZ (N:=["self"]) (λ_ _ _ _ _ _ _ _ hr h _=>?_)
 . obtain⟨t,dt,rfl,ht,q⟩:=h;refine⟨_,(ao (abu 0 (Jb yf hr.lw) rfl)
    (ao (abu 0 (jT aK) rfl)
    (ao (abu 0 bx rfl)
    (aG (abu 0 (cR T.Pq) rfl))))),?_⟩
   refine⟨rfl,λfx fs H1 hfx e1 hp sm1=>⟨rfl,sm1 _ _ ht,T.lZ,T.oF,(by show 0<1000;decide),?_⟩⟩
   refine⟨(by decide),λnf hnf=>⟨rfl,by rw[aM (aD aB hnf)];exact aB,T.lZ,T.mW,(by show 1<1000;decide),?_⟩⟩
   refine⟨rfl,aB,T.lZ,T.qd,(by show 2<1000;decide),?_⟩
   refine⟨rfl,aB,T.lZ,T.qP,(by show 3<1000;decide),?_⟩
   rw[jc,jc];have htn:t≠nf:=aD aB hnf;rw[aM (Ne.symm htn)]at hnf;have hfn:fx≠nf:=aD e1 hnf;have hft:fx≠t:=λz=>by rw[z,ht]at hfx;cases hfx
   refine q fx nf fs _ hfx (cZ.none sm1 hnf) (Ne.symm hfn) (by rw[aB];rfl) (by rw[aM (Ne.symm htn)];exact aB) (by rw[aM hft,aM hfn,aM hft];exact e1) ?_ ?_
   . refine bN hp λ_ _ z=>z.mono λy o fy eo=>?_;have hyt:y≠t:=λz=>by rw[z,ht]at fy;cases fy.1
     have hyn:y≠nf:=aD eo hnf;exact⟨⟨fy.1,fy.2,hyn⟩,by rw[aM hyt,aM hyn,aM hyt];exact eo⟩
   . intro c u e hc;have e':=sm1 _ _ e;rw[aM hc,aM (aD e' hnf),aM hc];exact e'
def wN.new{r:Addr}(h:H p=none):wN r H (L2.bM H p o):=λb u e _=>by rw[aM (aD e h)];exact e
def wN.fresh{r y:Addr}(b:wN r H H')(h:H' y=none)(hr:y≠r):H y=none:=by
 cases e:H y with
 |none=>rfl
 |some o=>rw[b y o e hr]at h;cases h
inductive Lf(A:Ad)(vs:List V)(H:Hp)(Q:VK)(_:XK):Prop
 |mk (L dL:Addr) (_:vs=[.ref L]) (_:H L=some (.ins A.dF dL [])) (_:∀r x H',gb A H' L dL r x {}->(∀y∈foot L r x,y=L\/H y=none)->wN L H H'->Q .non H')
def Yx(F:j5 K "__init__" "Line.__init__" Hz f fd)(T:Txt K mg A)(Dv:DQ P w K mg base "Table" A.Table 5 ["self"] (Qk A))(ql:jQ P w K mg base "nothing_told" dW 3 [] (Pb A)):dR P w K mg base dW 7 f fd ["self"] (Lf A):=by
 refine F.mZ (N:=["self"]) (λ_ _ _ _ H _ _ _ hr h _=>?_)
 . obtain⟨L,dL,rfl,hL,q⟩:=h;refine⟨_,(ao (abu 0 bx rfl)
    (ao (abu 0 (jT aK) rfl)
    (ao (abu 0 qG rfl)
    (ao (abu 0 yu rfl)
    (ao (abu 0 qG rfl)
    (ao (abu 0 bx rfl)
    (ao (abu 0 af4 rfl)
    (ao (abu 0 (cR T.Bg) rfl)
    (ao (abu 0 (cR T.Bg) rfl)
    (ao (abu 0 (O1 Dv hr.lw) rfl)
    (ao (abu 0 qG rfl)
    (ao (abu 0 (jT aK) rfl)
    (ao (abu 0 (jT aK) rfl)
    (ao (abu 0 bx rfl)
    (aG (abu 0 (Jb ql hr.lw) rfl)))))))))))))))),?_⟩
   refine⟨rfl,hL,T.cN,T.ni,(by show 0<1000;decide),?_⟩
   refine⟨(by decide),λfb hfb=>⟨rfl,by rw[aM (aD aB hfb)];exact aB,T.cN,T.vp,(by show 1<1000;decide),?_⟩⟩
   refine⟨rfl,aB,T.cN,T.oV,(by show 2<1000;decide),?_⟩
   refine⟨rfl,aB,T.cN,T.lE,(by show 3<1000;decide),?_⟩
   refine⟨rfl,aB,T.cN,T.pN,(by show 4<1000;decide),?_⟩
   refine⟨rfl,aB,T.cN,T.tK,(by show 5<1000;decide),?_⟩
   rw[jc,jc,jc,jc];have nfb:L≠fb:=aD aB hfb;rw[aM (Ne.symm nfb)]at hfb;generalize hfs1:kY "highest" (V.int 0) _=fs1;have eL1:L2.bM (L2.bM (L2.bM H L (HO.ins A.dF dL (kY "first_bytes_come" (V.int 0) []))) fb (.cM [])) L (.ins A.dF dL fs1) L=some (.ins A.dF dL fs1):=aB;have b1:wN L H (L2.bM (L2.bM (L2.bM H L (HO.ins A.dF dL (kY "first_bytes_come" (V.int 0) []))) fb (.cM [])) L (.ins A.dF dL fs1)):=λc u e hc=>by rw[aM hc,aM (aD e hfb),aM hc];exact e
   have f1:L2.bM (L2.bM (L2.bM H L (HO.ins A.dF dL (kY "first_bytes_come" (V.int 0) []))) fb (.cM [])) L (.ins A.dF dL fs1) fb=some (.cM []):=by rw[aM (Ne.symm nfb)];exact aB
   generalize L2.bM (L2.bM (L2.bM H L (HO.ins A.dF dL (kY "first_bytes_come" (V.int 0) []))) fb (.cM [])) L (.ins A.dF dL fs1)=H1 at eL1 b1 f1;intro sd hsd;have nsd:L≠sd:=aD eL1 hsd;have n1:fb≠sd:=aD f1 hsd;refine⟨rfl,by rw[aM nsd];exact eL1,T.cN,T.eV,(by rw[<-hfs1];show 6<1000;decide),?_⟩
   refine⟨rfl,aB,T.cN,T.xK,(by rw[<-hfs1];show 7<1000;decide),?_⟩
   refine⟨rfl,aB,T.cN,T.qb,(by rw[<-hfs1];show 8<1000;decide),?_⟩
   rw[jc,jc];generalize hfs2:kY "first_window" (V.int 65535) _=fs2;have eL2:L2.bM (L2.bM H1 sd (.dK [])) L (.ins A.dF dL fs2) L=some (.ins A.dF dL fs2):=aB;have b2:wN L H (L2.bM (L2.bM H1 sd (.dK [])) L (.ins A.dF dL fs2)):=b1.trans ((wN.new hsd).trans wN.bM);have f2:L2.bM (L2.bM H1 sd (.dK [])) L (.ins A.dF dL fs2) fb=some (.cM []):=by rw[aM (Ne.symm nfb),aM n1];exact f1
   have s2:L2.bM (L2.bM H1 sd (.dK [])) L (.ins A.dF dL fs2) sd=some (.dK []):=by rw[aM (Ne.symm nsd)];exact aB
   have hsd0:=b1.fresh hsd (Ne.symm nsd);generalize L2.bM (L2.bM H1 sd (.dK [])) L (.ins A.dF dL fs2)=H2 at eL2 b2 f2 s2;intro t dt ht hdt htd;refine⟨t,dt,rfl,aB,λfx nf hs H3 hfx hnf hnx et en ex hp bt=>⟨rfl,?_⟩⟩;have smt:cZ H2 H3:=λc u e=>bt c u (by rw[aM (aD e ht),aM (aD e hdt)];exact e) (aD e ht)
   have fr:∀{y:Addr},L2.bM (L2.bM H2 dt (.own t)) t (.ins A.Table dt []) y=none->H2 y=none/\y≠t:=fun {y} hy=>by
    have h1:y≠t:=λz=>by rw[z,aB]at hy;cases hy
    have h2:y≠dt:=λz=>by rw[z,aM htd,aB]at hy;cases hy
    rw[aM h1,aM h2]at hy;exact⟨hy,h1⟩
   have eL3:=smt _ _ eL2;have f3:=smt _ _ f2;have s3:=smt _ _ s2;refine⟨rfl,eL3,T.cN,T.Eh,(by rw[<-hfs2,<-hfs1];show 9<1000;decide),?_⟩
   refine⟨rfl,aB,T.cN,T.rW,(by rw[<-hfs2,<-hfs1];show 10<1000;decide),?_⟩
   rw[jc];generalize hfs3:kY "block_was_sent" (V.bl false) _=fs3;have nLt:L≠t:=aD eL2 ht;have nLfx:L≠fx:=aD eL2 (fr hfx).1;have nLnf:L≠nf:=aD eL2 (fr hnf).1;have eL4:L2.bM H3 L (.ins A.dF dL fs3) L=some (.ins A.dF dL fs3):=aB;have k4:∀{y:Addr}{o:HO},y≠L->H3 y=some o->L2.bM H3 L (.ins A.dF dL fs3) y=some o:=λhy e=>by rw[aM hy];exact e
   have b4:wN L H2 (L2.bM H3 L (.ins A.dF dL fs3)):=λc u e hc=>k4 hc (smt _ _ e);have f4:=k4 (Ne.symm nfb) f3;have s4:=k4 (Ne.symm nsd) s3;have et4:=k4 (Ne.symm nLt) et;have en4:=k4 (Ne.symm nLnf) en;have ex4:=k4 (Ne.symm nLfx) ex;have hp4:Paired (HdF A (λy=>H2 y=none/\y≠t/\y≠fx/\y≠nf) (L2.bM H3 L (.ins A.dF dL fs3))) hs Rc28.FIXED:=bN hp λ_ _ z=>z.mono λy o fy eo=>
    ⟨⟨(fr fy.1).1,(fr fy.1).2,fy.2⟩,k4 (λz=>by have:=(fr fy.1).1;rw[z,eL2]at this;cases this) eo⟩
   generalize L2.bM H3 L (.ins A.dF dL fs3)=H4 at eL4 k4 b4 f4 s4 et4 en4 ex4 hp4;refine⟨(by decide),λus hus=>⟨rfl,by rw[aM (aD eL4 hus)];exact eL4,T.cN,T.lu,(by rw[<-hfs3,<-hfs2,<-hfs1];show 11<1000;decide),?_⟩⟩
   have nLus:L≠us:=aD eL4 hus;generalize hfs5:kY "unsent" (V.ref us) fs3=fs5;have eL5:L2.bM (L2.bM H4 us (.cM [])) L (.ins A.dF dL fs5) L=some (.ins A.dF dL fs5):=aB;have u5:L2.bM (L2.bM H4 us (.cM [])) L (.ins A.dF dL fs5) us=some (.cM []):=by rw[aM (Ne.symm nLus)];exact aB
   have k5:wN L H4 (L2.bM (L2.bM H4 us (.cM [])) L (.ins A.dF dL fs5)):=(wN.new hus).trans wN.bM;generalize L2.bM (L2.bM H4 us (.cM [])) L (.ins A.dF dL fs5)=H5 at eL5 u5 k5;refine⟨(by decide),λut hut=>⟨rfl,by rw[aM (aD eL5 hut)];exact eL5,T.cN,T.xJ,(by rw[<-hfs5,<-hfs3,<-hfs2,<-hfs1];show 12<1000;decide),?_⟩⟩
   have nLut:L≠ut:=aD eL5 hut;refine⟨rfl,aB,T.cN,T.pG,(by rw[<-hfs5,<-hfs3,<-hfs2,<-hfs1];show 13<1000;decide),?_⟩
   rw[jc];generalize hfs6:kY "untold_weight" (V.int 0) _=fs6;have eL6:L2.bM (L2.bM H5 ut (.cM [])) L (.ins A.dF dL fs6) L=some (.ins A.dF dL fs6):=aB;have t6:L2.bM (L2.bM H5 ut (.cM [])) L (.ins A.dF dL fs6) ut=some (.cM []):=by rw[aM (Ne.symm nLut)];exact aB
   have k6:wN L H5 (L2.bM (L2.bM H5 ut (.cM [])) L (.ins A.dF dL fs6)):=(wN.new hut).trans wN.bM;generalize L2.bM (L2.bM H5 ut (.cM [])) L (.ins A.dF dL fs6)=H6 at eL6 t6 k6;have k46:=k5.trans k6;have f6:=k46 _ _ f4 (Ne.symm nfb);have s6:=k46 _ _ s4 (Ne.symm nsd);have et6:=k46 _ _ et4 (Ne.symm nLt);have en6:=k46 _ _ en4 (Ne.symm nLnf);have ex6:=k46 _ _ ex4 (Ne.symm nLfx);have u6:=k6 _ _ u5 (Ne.symm nLus);have nsd':=nsd;have nd:[L,fb,sd,t,nf,us,ut].Nodup:=by
    have a1:fb≠t:=aD f2 ht;have a2:fb≠nf:=aD f2 (fr hnf).1;have a3:fb≠us:=aD f4 hus;have a4:fb≠ut:=aD (k5 _ _ f4 (Ne.symm nfb)) hut;have a5:sd≠t:=aD s2 ht;have a6:sd≠nf:=aD s2 (fr hnf).1;have a7:sd≠us:=aD s4 hus;have a8:sd≠ut:=aD (k5 _ _ s4 (Ne.symm nsd)) hut;have a9:t≠nf:=(fr hnf).2.symm;have a10:t≠us:=aD et4 hus;have a11:t≠ut:=aD (k5 _ _ et4 (Ne.symm nLt)) hut;have a12:nf≠us:=aD en4 hus;have a13:nf≠ut:=aD (k5 _ _ en4 (Ne.symm nLnf)) hut;have a14:us≠ut:=aD u5 hut;simp only[dZ,aJ,cX,or_false,not_or,not_false_eq_true,sS,and_true];exact⟨⟨nfb,nsd,nLt,nLnf,nLus,nLut⟩,⟨n1,a1,a2,a3,a4⟩,⟨a5,a6,a7,a8⟩,⟨a9,a10,a11⟩,⟨a12,a13⟩,a14⟩
   have lv:U7 [L,fb,sd,t,nf,us,ut] H6:=λy hy=>by
    simp only[aJ,cX,or_false]at hy;rcases hy with rfl|rfl|rfl|rfl|rfl|rfl|rfl
    . exact⟨_,eL6⟩
    . exact⟨_,f6⟩
    . exact⟨_,s6⟩
    . exact⟨_,et6⟩
    . exact⟨_,en6⟩
    . exact⟨_,u6⟩
    . exact⟨_,t6⟩
   refine⟨[L,fb,sd,t,nf,us,ut],rfl,lv,λtn H7 htn hev sm7=>?_⟩;refine⟨rfl,sm7 _ _ eL6,T.cN,T.kj,(by rw[<-hfs6,<-hfs5,<-hfs3,<-hfs2,<-hfs1];show 14<1000;decide),?_⟩
   have efs:kY "told_now" (V.ref tn) fs6=bI ⟨0,fb,false,.non,false,0,sd,65535,65535,t,false,us,ut,0,tn⟩:=by
    rw[<-hfs6,<-hfs5,<-hfs3,<-hfs2,<-hfs1];rfl
   rw[efs];have k7:wN L H6 (L2.bM H7 L (.ins A.dF dL (bI ⟨0,fb,false,.non,false,0,sd,65535,65535,t,false,us,ut,0,tn⟩))):=λc u e hc=>by rw[aM hc];exact sm7 _ _ e
   have eL8:L2.bM H7 L (.ins A.dF dL (bI ⟨0,fb,false,.non,false,0,sd,65535,65535,t,false,us,ut,0,tn⟩)) L=_:=aB;have ev8:=hev.iV (H':=L2.bM H7 L (.ins A.dF dL (bI ⟨0,fb,false,.non,false,0,sd,65535,65535,t,false,us,ut,0,tn⟩))) (gm.bM (.head _));generalize L2.bM H7 L (.ins A.dF dL (bI ⟨0,fb,false,.non,false,0,sd,65535,65535,t,false,us,ut,0,tn⟩))=H8 at k7 eL8 ev8;have k48:=k46.trans k7;have hY:∀y,y∈[L,fb,sd,t,nf,us,ut]->y=L\/H y=none:=λy hy=>by
    simp only[aJ,cX,or_false]at hy;have b24:wN L H2 H4:=b4;have tr:∀{y:Addr},H2 y=none->y≠L->H y=none:=λh hn=>b2.fresh h hn;rcases hy with rfl|rfl|rfl|rfl|rfl|rfl|rfl
    . exact .inl rfl
    . exact .inr hfb
    . exact .inr hsd0
    . exact .inr (tr ht (Ne.symm nLt))
    . exact .inr (tr (fr hnf).1 (Ne.symm nLnf))
    . exact .inr (tr (b4.fresh hus (Ne.symm nLus)) (Ne.symm nLus))
    . exact .inr (tr ((b4.trans k5).fresh hut (Ne.symm nLut)) (Ne.symm nLut))
   refine q _ ⟨nf,dt,fx,[],[]⟩ H8 ⟨eL8,rfl,k48 _ _ f4 (Ne.symm nfb),rfl,rfl,rfl,rfl,rfl,rfl,rfl,k7 _ _ u6 (Ne.symm nLus),⟨rfl,rfl⟩,⟨k48 _ _ s4 (Ne.symm nsd),.nil,.nil⟩,⟨k48 _ _ et4 (Ne.symm nLt),⟨[],k48 _ _ en4 (Ne.symm nLnf),.nil⟩,⟨hs,k48 _ _ ex4 (Ne.symm nLfx),?_⟩,?_,cC (j:=3) rfl,cC (j:=4) rfl⟩,⟨by decide,by decide⟩,⟨[],k7 _ _ t6 (Ne.symm nLut),.nil⟩,rfl,ev8,nd,λy hy=>?_⟩ hY (b2.trans (b4.trans k48))
   . refine bN hp4 λ_ _ z=>(z.mono (G:=λy=>y∉[L,fb,sd,t,nf,us,ut]) (H':=H8) λy o fy eo=>?_).at λy fy=>fy;have hyL:y≠L:=λz=>by rw[z,eL2]at fy;cases fy.1
     refine⟨λm=>?_,k48 _ _ eo hyL⟩;simp only[aJ,cX,or_false]at m;rcases m with rfl|rfl|rfl|rfl|rfl|rfl|rfl
     . exact hyL rfl
     . rw[f2]at fy;cases fy.1
     . rw[s2]at fy;cases fy.1
     . exact fy.2.1 rfl
     . exact fy.2.2.2 rfl
     . rw[eo]at hus;cases hus
     . rw[k5 _ _ eo hyL]at hut;cases hut
   . intro m;change fx∈[L,fb,sd,t,nf,us,ut]at m;simp only[aJ,cX,or_false]at m;have hf:=fr hfx;rcases m with z|z|z|z|z|z|z
     . exact nLfx z.symm
     . rw[z,f2]at hf;cases hf.1
     . rw[z,s2]at hf;cases hf.1
     . exact hf.2 z
     . exact hnx z.symm
     . rw[<-z,ex4]at hus;cases hus
     . rw[<-z,k5 _ _ ex4 (Ne.symm nLfx)]at hut;cases hut
   . change y∈[L,fb,sd,t,nf,us,ut]at hy;by_cases hyL:y=L
     . exact⟨_,by rw[hyL];exact eL8⟩
     . obtain⟨o,e⟩:=lv y hy;exact⟨o,k7 _ _ e hyL⟩
def abe(A:Ad):Sp:=λvs H Q _=>vs=[]/\∀L dL r x H',gb A H' L dL r x (Rc28.send {} 4 0 0 (Rc28.be 2 3++Rc28.be 4 32))->(∀y∈foot L r x,H y=none)->cZ H H'->Q (.ref L) H'
def Vy(F:j5 K "begin_line" "begin_line" Ex f fd)(T:Txt K mg A)(vK:DQ P w K mg base "Line" A.dF 7 ["self"] (Lf A))(dO:jQ P w K mg base "bytes_of_number" dW 1 ["number","count"] aeM)(eY:jQ P w K mg base "send_frame" dW 2 ["line","kind","flags","stream","body"] (xr A)):dR P w K mg base dW 9 f fd [] (abe A):=by
 refine F.mZ (N:=["line","setting"]) (λ_ _ _ _ H _ _ _ hr h nd0=>?_)
 . obtain⟨rfl,q⟩:=h;refine⟨_,(ao (cB (i:=0) nd0 rfl (Or.inl rfl) (O1 vK hr.lw))
    (ao (cB (i:=1) nd0 rfl (Or.inl rfl) (iW El (aU dO hr.lw (aa (cR T.Mg) (aa bx aK))) (aU dO hr.lw (aa (cR T.G7) (aa bx aK)))))
    (ao (dz (aU eY hr.lw (aa (pv 0) (aa (cR T.wR) (aa bx (aa bx (aa (pv 1) aK)))))))
    (aG (aZ (pv 0)))))),?_⟩
   intro L dL hL hdL hne;refine⟨L,dL,rfl,aB,λr x H1 h1 hX b1=>⟨rfl,?_⟩⟩;have sm1:cZ H H1:=λc u e=>b1 c u (by rw[aM (aD e hL),aM (aD e hdL)];exact e) (aD e hL)
   have hX1:∀y∈foot L r x,H y=none:=λy hy=>by
    rcases hX y hy with rfl|z
    . exact hL
    . by_cases h1:y=L
      . rw[h1];exact hL
      . by_cases h2:y=dL
        . rw[h2];exact hdL
        . rw[aM h1,aM h2]at z;exact z
   refine⟨3,2,rfl,by decide,λp1 hp1 H2 e2 sm2=>⟨32,4,rfl,by decide,λp2 hp2 H3 e3 sm3=>?_⟩⟩;refine⟨_,_,_,_,rfl,rfl,sm3 _ _ e2,e3,by rw[cA,cA,nq,nq];decide,λp3 hp3=>?_⟩
   rw[<-uH];have sm4:cZ H1 (L2.bM H3 p3 (.cM (bv (Rc28.be 2 3++Rc28.be 4 32)))):=(sm2.trans sm3).trans (d7 hp3);have e4:L2.bM H3 p3 (.cM (bv (Rc28.be 2 3++Rc28.be 4 32))) p3=some (.cM (bv (Rc28.be 2 3++Rc28.be 4 32))):=aB;have n4:p3≠r.dU:=Ne.symm (aD ((sm2.trans sm3) _ _ h1.out) hp3);generalize L2.bM H3 p3 (.cM (bv (Rc28.be 2 3++Rc28.be 4 32)))=H4 at sm4 e4;have h4:=h1.same sm4;refine⟨_,rfl,_,rfl,L,dL,r,[],4,0,0,p3,_,rfl,h4.ob,h4.out,e4,n4,by decide,by decide,by rw[bw,aF,nq,nq];decide,λH5 e5 o5=>?_⟩
   have h5:=h4.acC o5 e5;refine⟨_,rfl,q L dL r x H5 h5 hX1 λc u e=>?_⟩;refine o5 _ _ (sm4 _ _ (sm1 _ _ e)) λm=>?_;have:=hX1 r.dU (cC (j:=5) rfl);rw[<-ak.mp m,e]at this
   cases this
end My
namespace L2
open PySem PySem.Spec PyProof.Rows AutoSeq1
def aaG(l:Addr)(items:Array Value)(n:Nat)(dct:Option Addr)(sl:Array (Option Value))(t:Tok):
 Meets (Builtin.«enumerate.__new__» ⟨[.type "enumerate",.ref l],[("start",.int 1 t)]⟩) (λ_ R s=>s.heap.get? l=some {cls:=.type "list",dict:=dct,data:=.seq items n,slots:=sl}/\R (.ok (.ret (.ref (s.heap.push {cls:=.type "list_iterator",data:=.fields #[.ref l,.int 0 0]}).objs.size)))
  {s with heap:=(s.heap.push {cls:=.type "list_iterator",data:=.fields #[.ref l,.int 0 0]}).push {cls:=.type "enumerate",data:=.fields #[.none,.bool false,.ref s.heap.objs.size,rawInt 1,.none,.none]}}):=
 .of_wp λprog w A R s h=>by
  obtain⟨hp,g,d,tk,os⟩:=s;obtain⟨hl,h⟩:=h;have hsub:=sub_enumerate;have hL:Heap.IsList (Shared.heap ⟨hp,g,d,tk,os⟩) l items:=⟨_,hl,rfl,n,rfl⟩;wp_walk using wpAny_loadPart' hl;refine wpAny_stack_any λst=>aA ?_;split
  . rename_i c _ _ _ _ _
    cases (c==Value.type "enumerate")<;>(wp_walk using wpAny_loadPart' hl,jG hL;exact⟨_,rfl,h⟩)
  . wp_walk using wpAny_loadPart' hl,jG hL;exact⟨_,rfl,h⟩
def abW(a v:Value):checkTypeCall "enumerate" ⟨[a],[("start",v)]⟩=pure ():=by kernel_rfl
def aeh(a v:Value):checkBuiltinCall "enumerate.__new__" ⟨[.type "enumerate",a],[("start",v)]⟩=pure ():=by kernel_rfl
def abU(o a v:Value):argsOk "object.__init__" ⟨[o,a],[("start",v)]⟩:=by unfold argsOk;kernel_rfl
def abV(self a v:Value):Meets (Builtin.«object.__init__» ⟨[self,a],[("start",v)]⟩) (λ_ R s=>s.TypeIs self "enumerate"/\R (.ok (.ret .none)) s):=by
 refine Meets.of_wp λprog w A R s hs=>?_;obtain⟨hT,hq⟩:=hs;have hl:=F.called_enumerate.init.lookup;have hm:=F.called_enumerate.made;have hne:(some "enumerate.__new__" != some "object.__new__")=true:=by decide
 repeat (any_goals (first|assumption|wp_step))
 exact⟨_,rfl,hq⟩
section
variable{A:Around}{s:Shared}
def abR{l:Addr}{items:Array Value}{t:Tok}{Q:Value->Shared->Prop}(hL:s.heap.IsList l items)(h:∀h',IsEnum h' (s.heap.objs.size+1) s.heap.objs.size 1 .none->h'.IsListIter s.heap.objs.size l 0->(∀b o,s.heap.get? b=some o->h'.get? b=some o)->Q (.ref (s.heap.objs.size+1)) {s with heap:=h'}):
 wpAny (model prog w) A (call (.type "enumerate") [.ref l] [("start",.int 1 t)]) Q E s:=by
 obtain⟨⟨c,dct,dt,sl⟩,hl,hc,n,hd⟩:=hL;replace hc:c=.type "list":=hc;replace hd:dt=.seq items n:=hd;subst hc hd;have ft:=F.called_enumerate;obtain⟨c0,tl0,hmro⟩:=ft.mro;have hmade:=ft.made;have hsub:=ft.sub;have h1:=ft.notType;have h2:=ft.canCreate;have hct:=abW (.ref l) (.int 1 t);refine wpAny_call (codeAny_of_tree ?_);show wpAny _ _ (callAny (.type "enumerate") _) _ _ _
 refine aA ⟨Code.quiet_builtin _ (by decide +kernel),iI F.entry_type_call ?_⟩;rw[Around.under_plain (weight_type_call_type "enumerate" [.ref l] [("start",.int 1 t)]) (units_type_call_type "enumerate" [.ref l] [("start",.int 1 t)])];repeat (any_goals (first|assumption|wp_step))
 have hz:(s.heap.push {cls:=.type "list_iterator",data:=.fields #[.ref l,.int 0 0]}).objs.size=s.heap.objs.size+1:=bT ..;have he:IsEnum ((s.heap.push {cls:=.type "list_iterator",data:=.fields #[.ref l,.int 0 0]}).push {cls:=.type "enumerate",data:=.fields #[.none,.bool false,.ref s.heap.objs.size,rawInt 1,.none,.none]}) (s.heap.objs.size+1) s.heap.objs.size 1 .none:=by
  rw[<-hz];exact aV _ rfl
 let R1:Result->Shared->Prop:=λr s1=>r=.ok (.ret (.ref (s.heap.objs.size+1)))/\s1={s with heap:=(s.heap.push {cls:=.type "list_iterator",data:=.fields #[.ref l,.int 0 0]}).push {cls:=.type "enumerate",data:=.fields #[.none,.bool false,.ref s.heap.objs.size,rawInt 1,.none,.none]}}
 refine iR (codeAny_call_builtin (R:=R1) ft.plain F.entry_enumerate_new (wpAny_of_eq (aeh _ _) (aaG l items n dct sl t prog w A.in1 R1 s ⟨hl,by rw[hz],rfl⟩))) λr s1 hr=>?_;obtain⟨rfl,rfl⟩:=hr;have hT:Shared.TypeIs {s with heap:=(s.heap.push {cls:=.type "list_iterator",data:=.fields #[.ref l,.int 0 0]}).push {cls:=.type "enumerate",data:=.fields #[.none,.bool false,.ref s.heap.objs.size,rawInt 1,.none,.none]}} (.ref (s.heap.objs.size+1)) "enumerate":=⟨_,he,rfl⟩;have hli:=ft.init.lookup;have hbi:=ft.init.bind (.ref (s.heap.objs.size+1));have hq:=h _ he ⟨_,aL _ (aV _ rfl),rfl,rfl⟩ λb o x=>aL _ (aL _ x);repeat (any_goals (first|assumption|wp_step))
 refine iR (codeAny_call_builtin (R:=λr s2=>r=.ok (.ret .none)/\s2=_) ft.init.plain F.entry_object_init (ft.init.check _ _ _ _ _ _ _ _ hT (abU _ _ _) (abV _ _ _ prog w A.in1 (λr s2=>r=.ok (.ret .none)/\s2=_) _ ⟨hT,rfl,rfl⟩))) λr2 s2 hr2=>?_;obtain⟨rfl,rfl⟩:=hr2;repeat (any_goals (first|assumption|wp_step))
end
def ai0{A:Around}(hh:A.handled=none)(it l:Addr)(hne:l≠it)(items:Array Value):
 Draws prog w A it [it,l] (items.size+1) (λi v=>items[i-1]? = some v) (λi h=>1<=i/\h.IsListIter it l (i-1)/\h.IsList l items) where
 live:=λ_ _ st=>let⟨o,ho,_⟩:=st.2.1;⟨o,ho⟩
 frame:=λ_ _ _ st hk=>⟨st.1,st.2.1.at λo e=>hk it (by simp) o e,st.2.2.at λo e=>hk l (by simp) o e⟩
 item:=λi s Q E hi st hQ=>by
  obtain⟨h1,h2,h3⟩:=st;have hlt:i-1<items.size:=by omega
  refine wpAny_nextOf_list_item h2 h3 (x:=items[i-1]) (by simp[hlt]) λh' hit' hs'=>?_;refine hQ _ h' s.toks (by simp[hlt]) ⟨by omega,?_,h3.extBut hs'.extBut hne⟩ hs';have e:i+1-1=i-1+1:=by omega
  rw[e];exact hit'
 done:=λs Q E st hE=>wpAny_nextOf_list_end hh st.2.1 st.2.2 (by simp) hE
def afr{A:Around}(hh:A.handled=none)(it l:Addr){items:Array Value}(hx:items[i]? = none):
 Draws prog w A it [it,l] 0 (λ_ _=>False) (λ_ h=>h.IsListIter it l i/\h.IsList l items) where
 live:=λ_ _ st=>st.1.elim λo ho=>⟨o,ho.1⟩
 frame:=λ_ _ _ st hk=>⟨st.1.at λo e=>hk it (.head _) o e,st.2.at λo e=>hk l (.tail _ (.head _)) o e⟩
 item:=λk s Q E hk=>absurd hk (kO _)
 done:=λs Q E st hE=>wpAny_nextOf_list_end hh st.1 st.2 hx hE
def agY(K:Fg)(a:Addr):It:=
 ⟨λi H=>∃(xs:List V)(x:V),fH K H a xs/\xs[i]? = some x,λi H v H'=>∃T x,v=.ref T/\H T=none/\H'=bM H T (.tup [.int ((i+1:Nat):Int),x])/\∀xs,fH K H a xs->xs[i]? = some x,λi H=>∃xs:List V,fH K H a xs/\xs.length<=i⟩
def acN(a e it:Addr)(hai:a≠it)(hae:a≠e):
 U9 P w K (.Tuple elts kk tpos) (agY K a) [e,it] e (λi h=>(∃old,IsEnum h e it (((i+1:Nat)):Int) old)/\h.IsListIter it a i/\e≠it) where
 mem:=by simp
 obj:=λi h st b hb=>by
  obtain⟨⟨old,he⟩,⟨o,ho,hc,hd⟩,_⟩:=st;rcases (by simpa using hb:b=e\/b=it) with z|z
  . rw[z];exact⟨_,he,λv q=>nomatch q⟩
  . rw[z];exact⟨o,ho,λv q=>by rw[hd]at q;cases q⟩
 keep:=λi h h' st k=>⟨st.1.imp λold he=>k e (by simp) _ he,st.2.1.at λo q=>k it (by simp) o q,st.2.2⟩
 item:=by
  intro X hP hw hK hc i aN s σ H E I hf st hg;subst hP hw hK;obtain⟨⟨old,he⟩,hit,hne⟩:=st;obtain⟨xs,x,hq,hx⟩:=hg;obtain⟨its,rv,p,hz⟩:=I.list hq;obtain⟨u,hu,ru⟩:=rv.get hx;have hel:e<s.heap.objs.size:=aP he;have hil:it<s.heap.objs.size:=by obtain⟨_,q,_⟩:=hit;exact aP q
  have hsz:i<its.toArray.size:=by
   have:=(bh.mp hu).1;simpa using this
  refine wpAny_pyNext_enum_itemD (i:=i+1) (ai0 (A:=X.A.in1) (I.ok.hd hc) it a hai its.toArray) he ⟨by omega,hit,p.isList⟩ (by omega) hne (by simp;exact⟨hne,Ne.symm hae⟩) λx' h' tk hx' ho hst' hT hsz' hk=>?_
  obtain rfl:x'=u:=by
   have e1:i+1-1=i:=by omega
   rw[e1]at hx';have:its.toArray[i]? = some u:=by simpa using hu
   rw[this]at hx';exact(cz hx').symm
  refine⟨_,rfl,wpAny_letOwnedTupleGo_enum (s:={s with heap:=h',toks:=tk+1}) ho λh'' he' sb=>?_⟩;have hT2:h''.get? s.heap.objs.size=some {cls:=.type "tuple",data:=.seq #[.int ((i+1:Nat):Int) tk,x']}:=(sb.2 _ (pA hel)).trans hT;have new:sG X.prog X.w (bM H s.heap.objs.size (.tup [.int ((i+1:Nat):Int),x])) h'' s.heap.objs.size (.tup [.int ((i+1:Nat):Int),x]):=
   ⟨by show 2<=sizeLine;decide,[.int ((i+1:Nat):Int) tk,x'],.cons ⟨_,rfl⟩ (.cons ru .nil),⟨_,hT2,rfl,_,rfl⟩⟩
  have I1:d8 X aN σ (bM H s.heap.objs.size (.tup [.int ((i+1:Nat):Int),x])) {s with heap:=h'',toks:=tk+1}:=
   I.Xe (ch:=[e,it]) (λb ob hb q=>(sb.2 b (λz=>hb (by simp[z]))).trans (hk b ob (λz=>hb (by simp[z])) (λz=>hb (by simp[z])) q)) hf (aH _) new
  refine⟨.ref s.heap.objs.size,_,I1,rfl,⟨_,x,rfl,I.mC.fresh (aH _),rfl,λys hy=>by rw[I.S7 hy hq];exact hx⟩,⟨⟨x',?_⟩,?_,hne⟩,λb hb=>?_⟩
  . have e1:((i+1+1:Nat):Int)=((i+1:Nat):Int)+1:=by omega
    rw[e1];exact he'
  . have h5:h'.IsListIter it a (i+1):=hst'.2.1;exact h5.at λo q=>(sb.2 it (Ne.symm hne)).trans q
  . have hb':b<s.heap.objs.size:=by
     rcases (by simpa using hb:b=e\/b=it) with z|z
     . rw[z];exact hel
     . rw[z];exact hil
    rw[aM (cu hb')];exact(hf b hb).1
 done:=by
  intro X hP hw hK hc i aN s σ H E I hf st hg;subst hP hw hK;obtain⟨⟨old,he⟩,hit,hne⟩:=st;obtain⟨xs,hq,hx⟩:=hg;obtain⟨its,rv,p,hz⟩:=I.list hq;obtain⟨f0,f1,f2,f3,f4,f5⟩:=hf it (by simp);have hl:=rv.length;exact wpAny_pyNext_enum_endD (afr (A:=X.A.in1) (I.ok.hd hc) it a (i:=i) (items:=its.toArray) (by simp;omega)) he ⟨hit,p.isList⟩ λh' eb=>⟨rfl,I.ud (t':=s.toks) (λb o hb q=>eb b o hb q) f0 f1 f3 f4 f5⟩
 self:=λA i s Q E st h=>let⟨⟨_,he⟩,_⟩:=st;lK he h
def aja(K:Fg)(ta:TA):TI:=λσ H R=>ta σ H λvs H1=>∃a xs,vs=[.ref a]/\fH K H1 a xs/\R (agY K a) H1
def aa7{X:Cx}{p kp cp:Pos}{ck:Nat}(hg:Gl X "enumerate")(hm:X.mg "enumerate"=none)(ha:PA X [e] ta)(hs:starEach [e] X.env=[(false,eval e X.env)]:=by rfl):
 PI X (.Tuple elts kk tpos) (.Call (.Name "enumerate" p) [e] [⟨some "start",.Constant (.int 1) ck cp,kp⟩] pos) (aja X.K ta):=by
 intro aN s σ H R I h;refine fZ (Kv I hg hm boot_enumerate ?_);unfold callWith;refine aj (iG ?_);rw[hs];refine evalArgs_kwB rfl ?_;have ha':=ha pos aN s σ H _ I h;rw[hs]at ha';refine nO ha' λus s1 ⟨vs,H1,I1,r1,q1⟩=>?_;refine kws_cons (pos:=pos) (env:=X.env) (dj (bx (X:=X) (i:=1) aN s1 σ H1 (λv H2=>v=.int 1/\H2=H1) I1 ⟨rfl,rfl⟩) (λv s2 hv=>kws_nil ?_) λ_ _ z=>z);obtain⟨v',H2,I2,rv,rfl,rfl⟩:=hv;obtain⟨t,rfl⟩:=rv;refine aj (wpAny_standAt ?_);refine aj (aA ?_);obtain⟨a,xs,ex,hq,q⟩:=q1;subst ex
 cases r1 with
 |cons r rr=>
  cases rr
  cases r;obtain⟨its,rv2,p',hz⟩:=I2.list hq;refine aj (abR p'.isList λh' he hit hk=>aj (iG (wpAny_point (aA (lK he ?_)))));have I3:d8 X aN σ H2 {s2 with heap:=h'}:=I2.wK (t':=s2.toks) hk;have hal:a<s2.heap.objs.size:=by obtain⟨_,z,_⟩:=p'.isList;exact aP z
  refine⟨s2.heap.objs.size+1,[s2.heap.objs.size+1,s2.heap.objs.size],_,_,H2,rfl,I3,acN a (s2.heap.objs.size+1) s2.heap.objs.size (cu hal) (cu (jE hal)),⟨⟨.none,he⟩,hit,Nat.succ_ne_self _⟩,λb hb=>?_,q⟩;have hle:s2.heap.objs.size<=b:=by
   rcases (by simpa using hb:b=s2.heap.objs.size+1\/b=s2.heap.objs.size) with z|z
   . rw[z];exact lR _ _
   . rw[z];exact aH _
  exact I2.ab0 hle (I2.mC.fresh hle)
def ad8{X:Cx}(hc:X.calm=true):Lj X (.builtin "min") (λxs H Q=>∃i j k,xs=[.int i,.int j,.int k]/\Q (.int (min i (min j k))) H):=by
 intro aN s σ H xs us Q I r h;obtain⟨i,j,k,rfl,q⟩:=h
 cases r with
 |cons r1 r=>cases r with
  |cons r2 r=>cases r with
   |cons r3 r=>
    cases r;obtain⟨t1,rfl⟩:=r1;obtain⟨t2,rfl⟩:=r2;obtain⟨t3,rfl⟩:=r3;refine min_three_ints (I.ok.hd hc) λh' tk kp=>⟨_,H,I.wK kp,?_,q⟩;by_cases h1:j<i
    . rw[if_pos h1];by_cases h2:k<j
      . rw[if_pos h2];exact⟨t3,by congr 1;omega⟩
      . rw[if_neg h2];exact⟨t2,by congr 1;omega⟩
    . rw[if_neg h1];by_cases h2:k<i
      . rw[if_pos h2];exact⟨t3,by congr 1;omega⟩
      . rw[if_neg h2];exact⟨t1,by congr 1;omega⟩
end L2
namespace My
open PySem L2
def Yj{J:It}{n:Nat->Int}(jg:∀i H xs x,fH K H a xs->xs[i]? = some x->J.go i H)(jy:∀i H v H',J.yld i H v H'->∃T x,v=.ref T/\H T=none/\H'=L2.bM H T (.tup [.int (n i),x])/\∀xs,fH K H a xs->xs[i]? = some x)(js:∀i H xs,fH K H a xs->xs.length<=i->J.Im i H)(Pv:Nat->St->Hp->Prop)(h0:Pv 0 σ H)(hl:∀i σ H,i<=xs.length->Pv i σ H->fH K H a xs)(hs:∀i x σ H T,xs[i]? = some x->Pv i σ H->H T=none->g (.ref T) σ (L2.bM H T (.tup [.int (n i),x])) λσ2 H2=>tb {D with nx:=Pv (i+1),ct:=Pv (i+1),bk:=D.nx} σ2 H2)(hd:∀σ H,Pv xs.length σ H->D.nx σ H):
 ∃W:Nat->Nat->St->Hp->Prop,(∃m,W 0 m σ H)/\∀i m σ H,W i m σ H ->
  (J.Im i H/\D.nx σ H)\/(J.go i H/\∃N:St->Hp->Prop,(∀σ' H',N σ' H'->∃m',m'<m/\W (i+1) m' σ' H')/\∀x H',J.yld i H x H'->g x σ H' λσ2 H2=>tb {D with nx:=N,ct:=N,bk:=D.nx} σ2 H2):=by
 refine⟨λi m σ H=>m=xs.length-i/\i<=xs.length/\Pv i σ H,⟨xs.length,by simp,bW _,h0⟩,?_⟩;rintro i m σ H ⟨rfl,hi,p⟩;have q:=hl i σ H hi p;by_cases hlt:i<xs.length
 . refine .inr ⟨jg i H xs xs[i] q (by simp[hlt]),Pv (i+1),λσ' H' p'=>⟨xs.length-(i+1),by omega,rfl,hlt,p'⟩,λx H' y=>?_⟩;obtain⟨T,z,rfl,hT,rfl,hz⟩:=jy _ _ _ _ y;exact hs i z σ _ T (hz xs q) p hT
 . have e:i=xs.length:=by omega
   subst e;exact .inl ⟨js _ _ xs q (aH _),hd σ H p⟩
def acR:TxB (.str ":status") (Rc28.text ":status"):=⟨_,rfl,by decide +kernel,by decide +kernel⟩
def acQ:TxB (.str "0123456789") (Rc28.text "0123456789"):=⟨_,rfl,by decide +kernel,by decide +kernel⟩
def SX(c:UInt8):Bool:=decide (48<=c.toNat/\c.toNat<=57)
def aiY:∀f:_root_.Fin 256,inV (.int (f.val:Int)) (bv (Rc28.text "0123456789"))=SX (UInt8.ofNat f.val):=by decide +kernel
def aiZ(c:UInt8):inV (.int (c.toNat:Int)) (bv (Rc28.text "0123456789"))=SX c:=by
 have:=aiY ⟨c.toNat,c.toNat_lt⟩;dsimp only at this;rw[this,UInt8.ofNat_toNat]
inductive abi(vs:List V)(H:Hp)(Q:VK)(_:XK):Prop
 |mk (a:Addr) (b:Rb) (_:vs=[.ref a]) (_:H a=some (.cM (bv b))) (_:∀H',cZ H H'->Q (.bl (b.length==3&&b.all SX)) H')
def YQ(F:j5 K "is_status" "is_status" HY f fd)(T:Txt K mg A)(dH:jQ P w K mg base "bytes_of_text" dW 1 ["text"] Li):dR P w K mg base dW 2 f fd ["value"] abi:=by
 refine F.mZ (N:=["value","digits","byte"]) (λ_ _ _ _ _ _ _ _ hr h nd0=>?_)
 . obtain⟨a,b,rfl,ha,q⟩:=h;refine⟨_,(ao (cB (i:=1) nd0 rfl (Or.inr rfl) (aU dH hr.lw (aa K5 aK)))
    (aG (aZ (Eo (mL pI (bV bc (by rfl) T.gO aO (aa (pv 0) aK)) bx (bO _)) (yw (bV (afl rfl) (by rfl) T.aim PyProof.Rows.Boot.«all» (aa (T4 rfl nd0 (zp (pv 0)) (xN (own:=[("byte",2)]) (by kernel_rfl)) (λ_ _ _ _ _=>jY (i:=2) nd0 rfl (Or.inl rfl)) (λ_ _ _ _ _=>Br)
    (te:=tOp (rIn K false) (iw 2) (iw 1)) (λ_ _ _ _ _=>mL Ja (pv 2) (pv 1) (by with_unfolding_all rfl))) aK))))))),?_⟩
   obtain⟨x,hx,hx1,hx2⟩:=acQ
   cases hx;refine⟨_,_,rfl,hx1,hx2,λd H1 hd e1 sm1=>?_⟩;have ha1:=sm1 _ _ ha;refine⟨_,rfl,a,bv b,rfl,.inl (fH.of ha1),rfl,_,rfl,?_⟩;rw[cA,show decide (V.int ((b.length:Nat):Int)=V.int 3)=decide (b.length=3) from Jt _ 3];by_cases h3:b.length=3
   . rw[show (b.length==3)=true by rw[h3];rfl,fK]at q
     rw[az h3];refine cQ ⟨_,rfl,a,rfl,⟨_,fH.of ha1⟩,λD hD=>Rq (K:=K) (a:=a) (xs:=bv b) (λi H2=>cZ H1 H2/\H2 D=some (.cM ((b.take i).map λc=>V.bl (SX c)))) ⟨d7 hD,aB⟩ (λi H2 _ z=>fH.of (z.1 _ _ ha1)) ?_ ?_⟩
     . rintro i y H2 hi ⟨sm,hD2⟩;obtain⟨c,hc,rfl⟩:=afc hi;refine⟨rfl,_,rfl,_,rfl,d,_,rfl,.inl (fH.of (sm _ _ e1)),rfl,Sv _,?_⟩;refine⟨_,hD2,?_,λc' o e=>?_,?_⟩
       . rw[aC,aY,bw];omega
       . rw[aM (aD e hD)];exact sm c' o e
       . rw[aB,pq hc,dm,aiZ];rfl
     . rintro H2 ⟨sm,hD2⟩;rw[cA,gh]at hD2;refine⟨D,b.map SX,rfl,fH.of (by rw[gH];exact hD2),?_⟩
       rw[List.all_map];exact q H2 (sm1.trans sm)
   . rw[show (b.length==3)=false by rw[jk];exact h3,jd]at q
     rw[aq h3];exact cY (q H1 sm1)
inductive W3(A:Ad)(vs:List V)(H:Hp)(Q:VK)(_:XK):Prop
 |mk (X:List Addr) (l:Addr) (hs:List Rh) (_:vs=[.ref l]) (_:oR A X H l hs) (_:∀H',cZ H H'->Q (.bl (goodAnswer hs)) H')
def Gp(F:j5 K "are_answer_headers" "are_answer_headers" tQ f fd)(T:Txt K mg A)(dH:jQ P w K mg base "bytes_of_text" dW 1 ["text"] Li)(GD:jQ P w K mg base "is_status" dW 2 ["value"] abi)(lA:jQ P w K mg base "are_trailers" dW 4 ["headers"] (Aq A)):dR P w K mg base dW 5 f fd ["headers"] (W3 A):=by
 refine F.mZ (N:=["headers"]) (λ_ _ _ _ H _ _ _ hr h _=>?_)
 . obtain⟨X,l,hs,rfl,hh,q⟩:=h;have hu64:=hr.units;refine⟨_,(ao (cV (uB (bF pI (bV bc (by rfl) T.gO aO (aa (pv 0) aK)) bx (bO _)) (rZ (bF (afZ hu64) (aQ (vU pZ (pv 0) bx (λ_ _=>rfl)) rfl) (aU dH hr.lw (aa K5 aK)) (bO _)))).pt (aG (aZ qG)) bC)
    (aG (aZ (Eo (aU GD hr.lw (aa (aQ (vU pZ (pv 0) bx (λ_ _=>rfl)) rfl) aK)) (yw (aU lA hr.lw (aa (jz lG (pv 0) (iu bx) uW) aK))))))),?_⟩
   obtain⟨as,hl,hp⟩:=id hh;refine⟨_,rfl,l,_,rfl,.inl (fH.of hl),rfl,_,rfl,?_⟩;rw[aC,fj hp,Js]
   cases hs with
   |nil=>exact cQ (cQ (q H λ_ _ e=>e))
   |cons h uT=>
    obtain⟨a,as',rfl⟩:∃a as',as=a::as':=by cases hp;exact⟨_,_,rfl⟩
    have hd:sU A X H a h:=by cases hp;assumption
    have hp':Paired (sU A X H) as' uT:=by cases hp;assumption
    obtain⟨dx,n,v,h1,h2,h3,_⟩:=id hd;rw[show decide ((h::uT).length=0)=false from rfl];refine cY ⟨_,rfl,_,_,_,_,rfl,rfl,fH.of hl,jN (j:=0) rfl rfl,_,_,_,_,_,rfl,h1,T.iK,T.gP,ir,?_⟩;obtain⟨x,hx,hx1,hx2⟩:=acR
    cases hx;refine⟨_,_,rfl,hx1,hx2,λp1 H1 hp1 e1 sm1=>neB (fH.of (sm1 _ _ h2)) (fH.of e1) ⟨_,rfl,?_⟩⟩;have eg:goodAnswer (h::uT)=(decide (h.1=Rc28.text ":status")&&((h.2.length==3&&h.2.all SX)&&uT.all Rc28.goodPlain)):=by
     show (h.1==Rc28.text ":status"&&(h.2.length==3&&((h.2.all λc=>decide (48<=c.toNat/\c.toNat<=57))&&uT.all Rc28.goodPlain)))=_
     rw[Be,Bool.and_assoc];rfl
    rw[eg]at q
    cases hst:decide (h.1=Rc28.text ":status") with
    |false=>
     rw[hst,jd]at q;exact cQ (q H1 sm1)
    |true=>
     rw[hst,fK]at q;refine cY ⟨_,rfl,_,_,_,_,rfl,rfl,fH.of (sm1 _ _ hl),jN (j:=0) rfl rfl,_,_,_,_,_,rfl,sm1 _ _ h1,T.iK,T.jD,j7,v,h.2,rfl,sm1 _ _ h3,λH2 sm2=>⟨_,rfl,?_⟩⟩
     cases hsd:(h.2.length==3&&h.2.all SX) with
     |false=>
      rw[hsd,jd]at q;exact cY (q H2 (sm1.trans sm2))
     |true=>
      rw[hsd,fK]at q;have sm12:=sm1.trans sm2;refine cQ ⟨_,rfl,1,rfl,_,_,rfl,fH.of (sm12 _ _ hl),λp2 hp2=>?_⟩;have c1:sV ((a::as').map V.ref) (some 1) none=as'.map V.ref:=by
       rw[show (some (1:Int))=some (((1:Nat):Int)) from rfl,Hb (by simp)];rfl
      rw[c1];have sm3:=sm12.trans (d7 (o:=.cM (as'.map V.ref)) hp2);refine⟨X,p2,uT,rfl,⟨as',aB,bN hp' λ_ _ z=>z.iV (cZ.iV sm3)⟩,λH4 sm4=>?_⟩;exact q H4 (sm3.trans sm4)
inductive ajM(vs:List V)(H:Hp)(Q:VK)(_:XK):Prop
 |mk (n bits up:Nat) (_:vs=[.int (n:Int),.int ((2^bits-1:Nat):Int),.int (up:Int)]) (_:n<2097152) (_:up+2^bits<=256) (_:0<bits) (_:∀p H',H p=none->H' p=some (.cM (bv (Rc28.intOut bits up n)))->cZ H H'->Q (.ref p) H')
def XX(n:Nat)(h:n<256):bv [UInt8.ofNat n]=[V.int (n:Int)]:=by
 unfold bv;rw[List.map_singleton,UJ n h]
def Ou(F:j5 K "packed_number" "packed_number" yI f fd)(T:Txt K mg A):dR P w K mg base dW 1 f fd ["number","ones","upper_bits"] ajM:=by
 refine F.mZ (N:=["number","ones","upper_bits","row","rest"]) (λ_ _ _ _ H _ _ _ _ h nd0=>?_)
 . obtain⟨n,bits,up,rfl,hn,hup,hb0,q⟩:=h;refine⟨_,(ao (cV (bF yS (pv 0) (pv 1) (bO _)) (aG (aZ (jT (aa (iW oG (pv 2) (pv 0)) aK)))) bC)
    (ao (cB (i:=3) nd0 rfl (Or.inl rfl) (jT (aa (iW oG (pv 2) (pv 1)) aK)))
    (ao (cB (i:=4) nd0 rfl (Or.inl rfl) (iW Em (pv 0) (pv 1)))
    (ao (De b8 (bF TJ (pv 4) bx (bO _)) (ao (dz (uR bB fQ fV vQ (pv 3) (aa (iW oG bx (iW TQ (pv 4) bx)) aK)))
    (aG (cB (i:=4) nd0 rfl (Or.inl rfl) (iW adu (pv 4) bx)))))
    (ao (dz (uR bB fQ fV vQ (pv 3) (aa (pv 4) aK)))
    (aG (aZ (pv 3)))))))),?_⟩
   have hp2:2<=2^bits:=by
    have:2^1<=2^bits:=Nat.pow_le_pow_right (by decide) hb0;simpa using this
   refine⟨_,rfl,_,rfl,_,_,rfl,rfl,_,rfl,?_⟩;by_cases hlt:n<2^bits-1
   . rw[show decide ((n:Int)<((2^bits-1:Nat):Int))=true from az (by omega)];refine cQ ⟨_,rfl,_,rfl,_,_,rfl,rfl,by show 1<=sizeLine;decide,λp hp=>q p _ hp ?_ (d7 hp)⟩
     rw[aB,aeq hlt,XX _ (by omega)];congr 3
   . rw[show decide ((n:Int)<((2^bits-1:Nat):Int))=false from aq (by omega)];rw[aep hlt hn]at q;refine cY ⟨_,rfl,_,rfl,_,_,rfl,rfl,by show 1<=sizeLine;decide,λp hp=>⟨_,rfl,_,rfl,_,_,rfl,rfl,?_⟩⟩
     have e0:(n:Int)-((2^bits-1:Nat):Int)=((n-(2^bits-1):Nat):Int):=by omega
     have e1:[V.int ((up:Int)+((2^bits-1:Nat):Int))]=bv [UInt8.ofNat (up+(2^bits-1))]:=by rw[XX _ (by omega)];congr 2
     dsimp only[Bp];rw[e0,e1];have hm:n-(2^bits-1)<2097152:=by omega
     generalize n-(2^bits-1)=m at q hm;generalize UInt8.ofNat (up+(2^bits-1))=hdb at q;refine⟨λk σ H2=>∃(fr:Rb)(m':Nat),k=m'/\σ=[some (.int (n:Int)),some (.int ((2^bits-1:Nat):Int)),some (.int (up:Int)),some (.ref p),some (.int (m':Int))]/\H2 p=some (.cM (bv fr))/\cZ H H2/\fr++tln m'=hdb::tln m/\m'<2097152/\fr.length+m'<3000000,
      ⟨_,[hdb],m,rfl,rfl,aB,d7 hp,rfl,hm,by show 1+m<_;omega⟩,?_⟩
     rintro m' σ H2 ⟨fr,_,rfl,rfl,hfr,sm,ef,hm',hfl⟩;refine⟨_,rfl,_,_,rfl,rfl,_,rfl,?_⟩;by_cases h128:m'<128
     . rw[show decide ((m':Int)>=128)=false from aq (by omega)];refine cY ⟨_,rfl,.inl ⟨rfl,_,fH.of hfr⟩,_,rfl,_,_,_,rfl,rfl,hfr,by rw[cA,bw];omega,_,rfl,?_⟩
       refine q p _ hp ?_ λc u e=>by rw[aM (aD e hp)];exact sm _ _ e
       rw[aB,<-ef,ZG h128,uH,XX _ (by omega)]
     . rw[show decide ((m':Int)>=128)=true from az (by omega)];refine cQ ⟨_,λ_ _ z=>z,?_⟩;refine⟨_,rfl,.inl ⟨rfl,_,fH.of hfr⟩,_,rfl,_,_,rfl,rfl,(show (0:Int)<128 by decide),_,_,rfl,rfl,_,_,_,rfl,rfl,hfr,by rw[cA,bw];omega,?_⟩
       refine⟨_,rfl,_,_,rfl,rfl,⟨by decide,by decide⟩,?_⟩;refine⟨m' / 128,by omega,fr++[UInt8.ofNat (128+m'%128)],m' / 128,rfl,?_,?_,λc u e=>?_,?_,by omega,?_⟩
       . show _=_
         congr 1
       . rw[aB,uH,XX _ (by omega)];congr 4
       . rw[aM (aD e hp)];exact sm _ _ e
       . rw[iC,<-ef,acM h128 hm'];rfl
       . rw[aF];show _+1+_<_;omega
inductive ajN(vs:List V)(H:Hp)(Q:VK)(_:XK):Prop
 |mk (a:Addr) (b:Rb) (_:vs=[.ref a]) (_:H a=some (.cM (bv b))) (_:b.length<=100000) (_:∀p H',H p=none->H' p=some (.cM (bv (Rc28.textOut b)))->cZ H H'->Q (.ref p) H')
def Tv(F:j5 K "packed_text" "packed_text" Ck f fd)(T:Txt K mg A)(nj:jQ P w K mg base "packed_number" dW 1 ["number","ones","upper_bits"] ajM):dR P w K mg base dW 2 f fd ["text"] ajN:=by
 refine F.mZ (N:=["text"]) (λ_ _ _ _ _ _ _ _ hr h _=>?_)
 . obtain⟨a,b,rfl,ha,hb,q⟩:=h;refine⟨_,(aG (aZ (iW El (aU nj hr.lw (aa (bV bc (by rfl) T.gO aO (aa (pv 0) aK)) (aa (cR T.v7) (aa bx aK)))) (pv 0)))),?_⟩;refine⟨_,rfl,_,_,rfl,.inl (fH.of ha),b.length,7,0,by rw[cA];rfl,by omega,by decide,by decide,λp1 H1 hp1 e1 sm1=>?_⟩
   have hil:=zP (bits:=7) (fl:=0) (n:=b.length);refine⟨_,rfl,_,_,_,_,rfl,rfl,e1,sm1 _ _ ha,by rw[cA,cA,bw];omega,λp hp=>?_⟩
   refine q p _ (cZ.none sm1 hp) ?_ (sm1.trans (d7 hp));rw[aB,<-uH];rfl
inductive abA(A:Ad)(X:List Addr)(H:Hp)(fx:Addr):Prop
 |mk (fs:List Addr) (_:H fx=some (.cM (fs.map V.ref))) (_:Paired (sU A X H) fs Rc28.FIXED)
def abA.same{fx:Addr}(h:abA A X H fx)(s:cZ H H'):abA A X H' fx:=by
 obtain⟨fs,h1,h2⟩:=h;exact⟨fs,s _ _ h1,bN h2 λ_ _ z=>z.iV (cZ.iV s)⟩
def Gn(p:Rh->Bool):Nat:=match Rc28.FIXED.findIdx? p with
 |some i=>i+1
 |none=>0
def aaN{p:Rh->Bool}(hi:Rc28.FIXED[i]? = some h)(hp:p h=true)(hn:∀j,j<i->∀g,Rc28.FIXED[j]? = some g->p g=false):Gn p=i+1:=by
 unfold Gn;have:Rc28.FIXED.findIdx? p=some i:=by
  obtain⟨hl,e⟩:=bh.mp hi;rw[jV];refine⟨hl,by rw[e];exact hp,λj hj=>?_⟩
  have:=hn j hj _ (bf (by omega));rw[this];exact aW
 rw[this]
def WK{p:Rh->Bool}(hn:∀(j:Nat) g,Rc28.FIXED[j]? = some g->p g=false):Gn p=0:=by
 unfold Gn;have:Rc28.FIXED.findIdx? p=none:=by
  rw[List.findIdx?_eq_none_iff];intro x hx;obtain⟨j,hj⟩:=jo.mp hx;exact hn j x hj
 rw[this]
def adl(p:Rh->Bool):Gn p<=61:=by
 unfold Gn;split
 . rename_i i h;have:=(jV.mp h).1;have:Rc28.FIXED.length=61:=by decide +kernel
   omega
 . omega
inductive agx(A:Ad)(vs:List V)(H:Hp)(Q:VK)(_:XK):Prop
 |mk (X Y:List Addr) (a fx:Addr) (h:Rh) (_:vs=[.ref a,.ref fx]) (_:sU A Y H a h) (_:abA A X H fx) (_:∀H',cZ H H'->Q (.int (Gn (λx=>x==h):Nat)) H')
def Jy(F:j5 K "number_of_header" "number_of_header" vC f fd)(T:Txt K mg A):dR P w K mg base dW 1 f fd ["header","fixed_ones"] (agx A):=by
 refine F.mZ (N:=["header","fixed_ones","number","fixed"]) (λ_ _ _ _ H _ _ _ hr h nd0=>?_)
 . obtain⟨X,Y,a,fx,h,rfl,hh,hfx,q⟩:=h;have hu64:=hr.units;refine⟨_,(ao (wj b8 rfl (aa7 (by rfl) T.Bb (aa (pv 1) aK)) (Y6 rfl (xV (jY (i:=2) nd0 rfl (Or.inl rfl)) (xV (jY (i:=3) nd0 rfl (Or.inl rfl)) Rw))) (aG (cV (Hw (bF (TF hu64) (aaO 3 rfl) (aaO 0 rfl) (bO _)) (Bs (bF (TF hu64) (aaO 3 rfl) (aaO 0 rfl) (bO _)))).pt (aG (aZ (pv 2))) bC)))
    (aG (aZ bx))),?_⟩
   obtain⟨fs,e1,e2⟩:=id hfx;obtain⟨dx,n,v,h1,h2,h3,_⟩:=id hh;refine⟨_,rfl,fx,_,rfl,fH.of e1,Yj (J:=agY K fx) (K:=K) (a:=fx) (n:=λi=>((i+1:Nat):Int)) (xs:=fs.map V.ref) (λi H xs x a b=>⟨xs,x,a,b⟩) (λi H v H' z=>z) (λi H xs a b=>⟨xs,a,b⟩)
    (λi σ H2=>(∃t u:Option V,σ=[some (.ref a),some (.ref fx),t,u])/\cZ H H2/\∀j,j<i->∀g,Rc28.FIXED[j]? = some g->(g==h)=false) ⟨⟨none,none,rfl⟩,λ_ _ e=>e,λj hj=>absurd hj (kO _)⟩ (λi σ H2 _ z=>fH.of (z.2.1 _ _ e1)) ?_ ?_⟩
   . rintro i y σ H2 T0 hi ⟨⟨t,u,rfl⟩,sm,hn⟩ hT0;obtain⟨b,hb,rfl⟩:=BW hi;obtain⟨g,hg,dxb,nb,vb,i1,i2,i3,_⟩:=L2.gW e2 hb;have sm2:=sm.trans (d7 (o:=.tup [.int ((i+1:Nat):Int),.ref b]) hT0);refine⟨T0,_,rfl,Bx.of aB,rfl,_,_,rfl,_,_,rfl,rfl,?_⟩;generalize L2.bM H2 T0 (.tup [.int ((i+1:Nat):Int),.ref b])=H3 at sm2;refine⟨rfl,sm2 _ _ i1,T.iK,T.gP,ir,rfl,sm2 _ _ h1,T.iK,T.gP,ir,eqB (fH.of (sm2 _ _ i2)) (fH.of (sm2 _ _ h2)) ⟨_,rfl,?_⟩⟩;have eb:(g==h)=(decide (g.1=h.1)&&decide (g.2=h.2)):=by
      rw[bR,je,bQ,bK,bK,Prod.ext_iff]
     cases hn1:decide (g.1=h.1) with
     |false=>
      refine cY (cY ⟨⟨_,_,rfl⟩,sm2,λj hj g' hg'=>?_⟩);by_cases hji:j=i
      . subst hji;rw[hg]at hg';cases hg';rw[eb,hn1];rfl
      . exact hn j (by omega) g' hg'
     |true=>
      refine cQ ⟨rfl,sm2 _ _ i1,T.iK,T.jD,j7,rfl,sm2 _ _ h1,T.iK,T.jD,j7,eqB (fH.of (sm2 _ _ i3)) (fH.of (sm2 _ _ h3)) ⟨_,rfl,?_⟩⟩
      cases hn2:decide (g.2=h.2) with
      |false=>
       refine cY ⟨⟨_,_,rfl⟩,sm2,λj hj g' hg'=>?_⟩;by_cases hji:j=i
       . subst hji;rw[hg]at hg';cases hg';rw[eb,hn1,hn2];rfl
       . exact hn j (by omega) g' hg'
      |true=>
       refine cQ ⟨_,rfl,?_⟩;rw[aaN hg (by rw[eb,hn1,hn2];rfl) hn]at q
       exact q H3 sm2
   . rintro σ H2 ⟨⟨t,u,rfl⟩,sm,hn⟩;rw[WK λj g hg=>hn j (by rw[aC,fj e2];exact(bh.mp hg).1) g hg]at q
     exact q H2 sm
inductive agy(A:Ad)(vs:List V)(H:Hp)(Q:VK)(_:XK):Prop
 |mk (X:List Addr) (a fx:Addr) (b:Rb) (_:vs=[.ref a,.ref fx]) (_:H a=some (.cM (bv b))) (_:abA A X H fx) (_:∀H',cZ H H'->Q (.int (Gn (λx=>x.1==b):Nat)) H')
def Mx(F:j5 K "number_of_name" "number_of_name" xg f fd)(T:Txt K mg A):dR P w K mg base dW 1 f fd ["name","fixed_ones"] (agy A):=by
 refine F.mZ (N:=["name","fixed_ones","number","fixed"]) (λ_ _ _ _ H _ _ _ hr h nd0=>?_)
 . obtain⟨X,a,fx,nm,rfl,ha,hfx,q⟩:=h;have hu64:=hr.units;refine⟨_,(ao (wj b8 rfl (aa7 (by rfl) T.Bb (aa (pv 1) aK)) (Y6 rfl (xV (jY (i:=2) nd0 rfl (Or.inl rfl)) (xV (jY (i:=3) nd0 rfl (Or.inl rfl)) Rw))) (aG (cV (bF (TF hu64) (aaO 3 rfl) (pv 0) (bO _)) (aG (aZ (pv 2))) bC)))
    (aG (aZ bx))),?_⟩
   obtain⟨fs,e1,e2⟩:=id hfx;refine⟨_,rfl,fx,_,rfl,fH.of e1,Yj (J:=agY K fx) (K:=K) (a:=fx) (n:=λi=>((i+1:Nat):Int)) (xs:=fs.map V.ref) (λi H xs x a b=>⟨xs,x,a,b⟩) (λi H v H' z=>z) (λi H xs a b=>⟨xs,a,b⟩)
    (λi σ H2=>(∃t u:Option V,σ=[some (.ref a),some (.ref fx),t,u])/\cZ H H2/\∀j,j<i->∀g,Rc28.FIXED[j]? = some g->(g.1==nm)=false) ⟨⟨none,none,rfl⟩,λ_ _ e=>e,λj hj=>absurd hj (kO _)⟩ (λi σ H2 _ z=>fH.of (z.2.1 _ _ e1)) ?_ ?_⟩
   . rintro i y σ H2 T0 hi ⟨⟨t,u,rfl⟩,sm,hn⟩ hT0;obtain⟨b,hb,rfl⟩:=BW hi;obtain⟨g,hg,dxb,nb,vb,i1,i2,i3,_⟩:=L2.gW e2 hb;have sm2:=sm.trans (d7 (o:=.tup [.int ((i+1:Nat):Int),.ref b]) hT0);refine⟨T0,_,rfl,Bx.of aB,rfl,_,_,rfl,_,_,rfl,rfl,?_⟩;generalize L2.bM H2 T0 (.tup [.int ((i+1:Nat):Int),.ref b])=H3 at sm2;refine⟨rfl,sm2 _ _ i1,T.iK,T.gP,ir,_,rfl,eqB (fH.of (sm2 _ _ i2)) (fH.of (sm2 _ _ ha)) ⟨_,rfl,?_⟩⟩
     cases hn1:decide (g.1=nm) with
     |false=>
      refine cY ⟨⟨_,_,rfl⟩,sm2,λj hj g' hg'=>?_⟩;by_cases hji:j=i
      . subst hji;rw[hg]at hg';cases hg';rw[Be];exact hn1
      . exact hn j (by omega) g' hg'
     |true=>
      refine cQ ⟨_,rfl,?_⟩;rw[aaN hg (by rw[Be];exact hn1) hn]at q
      exact q H3 sm2
   . rintro σ H2 ⟨⟨t,u,rfl⟩,sm,hn⟩;rw[WK λj g hg=>hn j (by rw[aC,fj e2];exact(bh.mp hg).1) g hg]at q
     exact q H2 sm
theorem acr(h:Rh):Rc28.packOne h=if 0<Gn (λx=>x==h) then Rc28.intOut 7 128 (Gn λx=>x==h) else
 if Gn (λx=>x.1==h.1)=0 then Rc28.intOut 4 0 0++Rc28.textOut h.1++Rc28.textOut h.2 else Rc28.intOut 4 0 (Gn λx=>x.1==h.1)++Rc28.textOut h.2:=by
 unfold Rc28.packOne Gn
 cases e1:Rc28.FIXED.findIdx? (λx=>x==h) with
 |some i=>rw[if_pos (rM i)]
 |none=>
  rw[if_neg (gA 0)]
  cases e2:Rc28.FIXED.findIdx? (λx=>x.1==h.1) with
  |some i=>dsimp only;rw[if_neg (Nat.succ_ne_zero i)]
  |none=>dsimp only;rw[if_pos rfl];rfl
inductive ak1(A:Ad)(vs:List V)(H:Hp)(Q:VK)(_:XK):Prop
 |mk (X Y:List Addr) (a fx:Addr) (h:Rh) (_:vs=[.ref a,.ref fx]) (_:sU A Y H a h) (_:abA A X H fx) (_:h.1.length<=100000) (_:h.2.length<=100000) (_:∀p H',H p=none->H' p=some (.cM (bv (Rc28.packOne h)))->cZ H H'->Q (.ref p) H')
def Ot(F:j5 K "packed_header" "packed_header" yH f fd)(T:Txt K mg A)(vd:jQ P w K mg base "number_of_header" dW 1 ["header","fixed_ones"] (agx A))(wO:jQ P w K mg base "number_of_name" dW 1 ["name","fixed_ones"] (agy A))(nj:jQ P w K mg base "packed_number" dW 1 ["number","ones","upper_bits"] ajM)(xx:jQ P w K mg base "packed_text" dW 2 ["text"] ajN):dR P w K mg base dW 3 f fd ["header","fixed_ones"] (ak1 A):=by
 refine F.mZ (N:=["header","fixed_ones","number","row"]) (λ_ _ _ _ H _ Q _ hr h nd0=>?_)
 . obtain⟨X,Y,a,fx,h,rfl,hh,hfx,hl1,hl2,q⟩:=h;refine⟨_,(ao (cB (i:=2) nd0 rfl (Or.inl rfl) (aU vd hr.lw (aa (pv 0) (aa (pv 1) aK))))
    (ao (cV (bF qF (pv 2) bx (bO _)) (aG (aZ (aU nj hr.lw (aa (pv 2) (aa (cR T.v7) (aa (cR T.ag8) aK)))))) bC)
    (ao (cB (i:=2) nd0 rfl (Or.inl rfl) (aU wO hr.lw (aa (aaO 0 rfl) (aa (pv 1) aK))))
    (ao (cB (i:=3) nd0 rfl (Or.inl rfl) (aU nj hr.lw (aa (pv 2) (aa (cR T.Pn) (aa bx aK)))))
    (ao (cV (bF pI (pv 2) bx (bO _)) (aG (dz (uR bB fU fW vR (pv 3) (aa (aU xx hr.lw (aa (aaO 0 rfl) aK)) aK)))) bC)
    (aG (aZ (iW El (pv 3) (aU xx hr.lw (aa (aaO 0 rfl) aK)))))))))),?_⟩
   obtain⟨dx,n,v,h1,h2,h3,_⟩:=id hh;rw[acr]at q;have le1:=adl (λx=>x==h);have le2:=adl (λx=>x.1==h.1);refine⟨_,rfl,_,rfl,X,Y,a,fx,h,rfl,hh,hfx,λH1 sm1=>?_⟩;refine⟨_,rfl,_,_,rfl,rfl,_,rfl,?_⟩;by_cases hk:0<Gn (λx=>x==h)
   . rw[show decide (((Gn (λx=>x==h):Nat):Int)>0)=true from az (by omega)];rw[if_pos hk]at q;exact cQ ⟨_,rfl,Gn (λx=>x==h),7,128,rfl,by omega,by decide,by decide,λp H2 hp e2 sm2=>q p H2 (cZ.none sm1 hp) e2 (sm1.trans sm2)⟩
   . rw[show decide (((Gn (λx=>x==h):Nat):Int)>0)=false from aq (by omega)];rw[if_neg hk]at q;refine cY ⟨rfl,sm1 _ _ h1,T.iK,T.gP,ir,_,rfl,X,n,fx,h.1,rfl,sm1 _ _ h2,hfx.same sm1,λH2 sm2=>?_⟩;generalize Gn (λx=>x.1==h.1)=k2 at q le2;refine⟨_,rfl,k2,4,0,rfl,by omega,by decide,by decide,λp3 H3 hp3 e3 sm3=>?_⟩;refine⟨_,rfl,rfl,_,rfl,?_⟩;rw[Js];have sm12:=sm1.trans sm2;have sm13:=sm12.trans sm3;have hp30:=cZ.none sm12 hp3;have il:=zP (bits:=4) (fl:=0) (n:=k2);have tl1:=xZ h.1;have tl2:=xZ h.2;have fin:∀(r:Rb)(H4:Hp),H4 p3=some (.cM (bv r))->cZ H H4->r.length<=200000->(∀p H',H p=none->H' p=some (.cM (bv (r++Rc28.textOut h.2)))->cZ H H'->Q (.ref p) H') ->
      Dn (tOp akP (iw 3) (uc ajN [] E0 (fG (tFv K 0 "value") oO))) {nx:=λ_ H'=>Q .non H',rt:=Q} [some (.ref a),some (.ref fx),some (.int (k2:Int)),some (.ref p3)] H4:=by
      intro r H4 e4 sm4 hr4 q;refine⟨_,rfl,rfl,sm4 _ _ h1,T.iK,T.jD,j7,v,h.2,rfl,sm4 _ _ h3,hl2,λp5 H5 hp5 e5 sm5=>?_⟩;refine⟨_,_,_,_,rfl,rfl,sm5 _ _ e4,e5,by rw[cA,cA,bw];omega,λp hp=>?_⟩
      rw[<-uH];exact q p _ (cZ.none (sm4.trans sm5) hp) aB ((sm4.trans sm5).trans (d7 hp))
     by_cases hz:k2=0
     . rw[az hz];rw[if_pos hz]at q;refine cQ ⟨_,rfl,.inl ⟨rfl,_,fH.of e3⟩,rfl,sm13 _ _ h1,T.iK,T.gP,ir,n,h.1,rfl,sm13 _ _ h2,hl1,λp4 H4 hp4 e4 sm4=>?_⟩;refine⟨_,_,_,_,rfl,rfl,sm4 _ _ e3,e4,by rw[cA,cA,bw];omega,?_⟩
       rw[<-uH];subst hz;exact fin _ _ aB (λc u e=>by rw[aM (aD e hp30)];exact sm4 _ _ (sm13 _ _ e)) (by rw[aF];omega) q
     . rw[aq hz];rw[if_neg hz]at q;exact cY (fin _ _ e3 sm13 (by omega) q)
inductive agz(A:Ad)(vs:List V)(H:Hp)(Q:VK)(_:XK):Prop
 |mk (X Y:List Addr) (l fx:Addr) (hs:List Rh) (_:vs=[.ref l,.ref fx]) (_:oR A Y H l hs) (_:abA A X H fx) (_:jB hs<=100000) (_:∀p H',H p=none->H' p=some (.cM (bv (hs.flatMap Rc28.packOne)))->cZ H H'->Q (.ref p) H')
theorem aaM:∀{l:List Rh}{h:Rh},h∈l->4+h.1.length+h.2.length<=jB l
 |_::l,_,.head _=>by unfold jB;rw[bG,jq];omega
 |_::l,_,.tail _ m=>by have:=aaM m;unfold jB at this ⊢;rw[bG,jq];omega
def aen(l:List Rh)(i:Nat):jB (l.take i)<=jB l:=by
 unfold jB;rw[List.map_take];exact sum_take_le _ _
where
 sum_take_le (m:List Nat) (i:Nat):(m.take i).sum<=m.sum:=by
  have:=List.take_append_drop i m;conv=>rhs;rw[<-this]
  rw[List.sum_append];omega
def ahE(F:j5 K "pack" "pack" acx f fd)(T:Txt K mg A)(yh:jQ P w K mg base "packed_header" dW 3 ["header","fixed_ones"] (ak1 A)):dR P w K mg base dW 4 f fd ["headers","fixed_ones"] (agz A):=by
 refine F.mZ (N:=["headers","fixed_ones","block","header"]) (λ_ _ _ _ H _ _ _ hr h nd0=>?_)
 . obtain⟨X,Y,l,fx,hs,rfl,hh,hfx,hln,q⟩:=h;refine⟨_,(ao (cB (i:=2) nd0 rfl (Or.inl rfl) (jT aK))
    (ao (wj b8 rfl (zp (pv 0)) (jY (i:=3) nd0 rfl (Or.inl rfl)) (aG (dz (uR bB fU fW vR (pv 2) (aa (aU yh hr.lw (aa (pv 3) (aa (pv 1) aK))) aK)))))
    (aG (aZ (pv 2))))),?_⟩
   obtain⟨as,hl,hp⟩:=id hh;refine⟨by decide,λp hp0=>?_⟩;refine⟨_,rfl,l,rfl,⟨_,fH.of (d7 hp0 _ _ hl)⟩,Hd (K:=K) (a:=l) (xs:=as.map V.ref) (λi σ H2=>(∃v:Option V,σ=[some (.ref l),some (.ref fx),some (.ref p),v])/\cZ H H2/\H2 p=some (.cM (bv ((hs.take i).flatMap Rc28.packOne))))
    ⟨⟨none,rfl⟩,d7 hp0,aB⟩ (λi σ H2 _ z=>fH.of (z.2.1 _ _ hl)) ?_ ?_⟩
   . rintro i y σ H2 hi ⟨⟨v,rfl⟩,sm,e2⟩;obtain⟨a,ha,rfl⟩:=BW hi;obtain⟨h,hhi,hd⟩:=L2.gW hp ha;have hm:=aaM (cD hhi);have hpl:=CZ (hs.take i);have htk:=aen hs i;have hp1:=PQ h;refine⟨_,rfl,.inl ⟨rfl,_,fH.of e2⟩,_,rfl,_,rfl,X,Y,a,fx,h,rfl,hd.iV (cZ.iV sm),hfx.same sm,by omega,by omega,λp3 H3 hp3 e3 sm3=>?_⟩;refine⟨_,_,_,_,rfl,rfl,sm3 _ _ e2,e3,by rw[cA,cA,bw];omega,⟨_,rfl⟩,λc u e=>?_,?_⟩
     . rw[aM (aD e hp0)];exact sm3 _ _ (sm _ _ e)
     . rw[aB,<-uH,pq hhi,List.flatMap_append];simp only[pJ,List.flatMap_nil,eQ]
   . rintro σ H2 ⟨⟨v,rfl⟩,sm,e2⟩;rw[aC,fj hp,gh]at e2;exact⟨_,rfl,q p H2 hp0 e2 sm⟩
def rgP(hn:n<=200000)(hm:m=(n+16383) / 16384):RgC 0 (n:Int) 16384 m:=by
 have e:Builtin.Range.rangeSize 0 (n:Int) 16384=(m:Int):=by
  unfold Builtin.Range.rangeSize;rw[if_pos (by decide)];split<;>omega
 refine⟨by decide,by decide,?_,e⟩;unfold Builtin.Range.small;rw[e];have h1:(m:Int)<=100:=by omega
 have h2:0<=(m:Int):=by omega
 have h3:(n:Int)<=200000:=by omega
 have h4:0<=(n:Int):=by omega
 clear e hm;generalize (m:Int)=b at h1 h2;generalize (n:Int)=z at h3 h4;have fl:∀k:Int,0<=k->k<=10000000->Builtin.Range.rangeFitsLong k=true:=λk a b=>by
  unfold Builtin.Range.rangeFitsLong;rw[bQ];exact⟨az (by omega),az (by omega)⟩
 rw[fl 0 (by omega) (by omega),fl z h4 (by omega),fl 16384 (by omega) (by omega),fl b h2 (by omega),if_pos (by decide),fl _ (by omega) (by omega),Bool.or_true];rfl
def aeu{c:Int}{vs:List Nat}{D:Addr}{Qd:Hp->Prop}(Pv:Nat->Hp->Prop)(h0:Pv 0 (L2.bM H1 D (.cM [])))(hs:∀i H,i<n->Pv i H->g (.int (lo+(i:Nat)*c)) (wipe σ vs) H λσ2 H2=>wipe σ2 vs=wipe σ vs/\tt σ2 H2 λb H3=>
 if b=true then te σ2 H3 λy H4=>∃acc,H4 D=some (.cM acc)/\acc.length<sizeLine/\Pv (i+1) (L2.bM H4 D (.cM (acc++[y]))) else Pv (i+1) H3)(hd:∀H,Pv n H->Qd H):
 ∃W:Nat->Nat->Hp->Prop,(∃m,W 0 m (L2.bM H1 D (.cM [])))/\∀i m H,W i m H ->
  ((Itc lo c n).Im i H/\Qd H)\/((Itc lo c n).go i H/\∃Nx:Hp->Prop,(∀H',Nx H'->∃m',m'<m/\W (i+1) m' H')/\∀x H',(Itc lo c n).yld i H x H'->g x (wipe σ vs) H' λσ2 H2=>wipe σ2 vs=wipe σ vs/\tt σ2 H2 λb H3=>
    if b=true then te σ2 H3 λy H4=>∃acc,H4 D=some (.cM acc)/\acc.length<sizeLine/\Nx (L2.bM H4 D (.cM (acc++[y]))) else Nx H3):=by
 refine⟨λi m H=>m=n-i/\i<=n/\Pv i H,⟨n,by simp,bW _,h0⟩,?_⟩;rintro i m H ⟨rfl,hi,p⟩;by_cases hlt:i<n
 . refine .inr ⟨hlt,Pv (i+1),λH' p'=>⟨n-(i+1),by omega,rfl,hlt,p'⟩,λx H' y=>?_⟩;obtain⟨rfl,rfl⟩:=y;exact hs i _ hlt p
 . have e:i=n:=by omega
   subst e;exact .inl ⟨aH _,hd H p⟩
def CQ:sV xs (some (i:Int)) (some ((i:Int)+(n:Int)))=(xs.drop i).take n:=by
 unfold sV;have e1:HT.uX xs.length 0 (some (i:Int))=min i xs.length:=HT.Jc ..;have e2:HT.uX xs.length xs.length (some ((i:Int)+(n:Int)))=min (i+n) xs.length:=by
  rw[show (i:Int)+(n:Int)=((i+n:Nat):Int) by omega,HT.Jc]
 rw[e1,e2];by_cases h:i<=xs.length
 . rw[Nat.min_eq_left h,List.take_eq_take_iff,bu];omega
 . have e3:min i xs.length=xs.length:=by omega
   rw[e3,lO,eU (by omega:xs.length<=i),List.take_nil,List.take_nil]
def aiH(F:Addr->Prop)(H:Hp)(as:List Addr)(bs:List Rb):Prop:=Paired (λa b=>H a=some (.cM (bv b))/\F a) as bs
def TX(b:Rb):List Rb:=(List.range (nP b)).map (zV b)
def af2(b:Rb)(h:i<nP b):(TX b).take (i+1)=(TX b).take i++[zV b i]:=by
 refine pq ?_;unfold TX;rw[bA,nW h];rfl
inductive Ut(vs:List V)(H:Hp)(Q:VK)(_:XK):Prop
 |mk (a:Addr) (b:Rb) (_:vs=[.ref a]) (_:H a=some (.cM (bv b))) (_:b.length<=131072) (_:∀p as H',H p=none->H' p=some (.cM (as.map V.ref))->aiH (λy=>H y=none/\y≠p) H' as (TX b)->cZ H H'->Q (.ref p) H')
def YT(F:j5 K "pieces_of" "pieces_of" Ib f fd)(T:Txt K mg A):dR P w K mg base dW 1 f fd ["row"] Ut:=by
 refine F.mZ (N:=["row","place"]) (λ_ _ _ _ H _ _ _ _ h nd0=>?_)
 . obtain⟨a,b,rfl,ha,hb,q⟩:=h;refine⟨_,(aG (aZ (T4 rfl nd0 (WX (by rfl) T.Ri (aa bx (aa (bV bc (by rfl) T.gO aO (aa (pv 0) aK)) (aa (cR T.yo) aK)))) (xN (own:=[("place",1)]) (by kernel_rfl)) (λ_ _ _ _ _=>jY (i:=1) nd0 rfl (Or.inl rfl)) (λ_ _ _ _ _=>Br)
    (te:=tSl (agi K) (iw 0) (Xb (iw 1)) (Xb (tOp (rI0 λi j=>.int (i+j)) (iw 1) (tC (.int 16384))))) (λ_ _ _ _ _=>jz lG (pv 0) (iu (pv 1)) (iu (iW oG (pv 1) (cR T.yo))))))),?_⟩
   refine⟨_,rfl,_,_,rfl,.inl (fH.of ha),0,_,16384,nP b,rfl,by rw[cA];exact rgP (by omega) rfl,λD hD=>aeu (λi H2=>cZ H H2/\∃as:List Addr,H2 D=some (.cM (as.map V.ref))/\aiH (λy=>H y=none/\y≠D) H2 as ((TX b).take i)) ⟨d7 hD,[],aB,.nil⟩ ?_ ?_⟩
   . rintro i H2 hi ⟨sm,as,e1,e2⟩;refine⟨rfl,_,rfl,_,rfl,_,rfl,_,rfl,_,_,rfl,rfl,_,rfl,_,_,rfl,fH.of (sm _ _ ha),λp hp=>?_⟩;have ec:sV (bv b) (some (0+(i:Nat)*16384)) (some (0+(i:Nat)*16384+16384))=bv (zV b i):=by
      rw[show (0:Int)+(i:Nat)*16384=((i*16384:Nat):Int) by omega,show (some (((i*16384:Nat):Int)+16384))=some (((i*16384:Nat):Int)+((16384:Nat):Int)) from rfl,CQ];unfold zV;rw[pY,uq]
     rw[ec];have hpD:p≠D:=λz=>by rw[z,e1]at hp;cases hp
     refine⟨_,by rw[aM (Ne.symm hpD)];exact e1,?_,?_⟩
     . rw[aC,fj e2,aY];have:(TX b).length=nP b:=by unfold TX;rw[aC,iD]
       have:nP b<=8:=by unfold nP;omega
       rw[bw];omega
     . refine⟨λc u e=>?_,as++[p],by rw[aB,dm];rfl,?_⟩
       . rw[aM (aD e hD),aM (aD (sm _ _ e) hp)];exact sm _ _ e
       . rw[af2 b hi];refine tL (bN e2 λy c z=>⟨?_,z.2⟩) ⟨by rw[aM hpD];exact aB,cZ.none sm hp,hpD⟩
         rw[aM z.2.2,aM (aD z.1 hp)];exact z.1
   . rintro H2 ⟨sm,as,e1,e2⟩;have:(TX b).take (nP b)=TX b:=jO (by unfold TX;rw[aC,iD];exact aH _)
     rw[this]at e2;exact q D as H2 hD e1 e2 sm
def gb.say(h:gb A H L dL r x s)(o:gm [L] H H')(e:H' L=some (.ins A.dF dL (bI {r with gn:=true}))):gb A H' L dL {r with gn:=true} x {s with said:=true}:=
 h.z6 (o.mono λz hz=>by rw[ak.mp hz];exact .head _) e (h.tZ.iV o (rH h.nd 2 0 rfl rfl) (h.Gf (j:=0) rfl).2).st rfl rfl h.start rfl rfl h.settled rfl rfl h.failed h.dead h.highest rfl h.window h.first rfl rfl rfl rfl rfl rfl rfl rfl rfl rfl
inductive W5(A:Ad)(vs:List V)(H:Hp)(Q:VK)(_:XK):Prop
 |mk (L dL:Addr) (r:gM) (x:Lx) (s:Ra) (Y:List Addr) (l:Addr) (hs:List Rh) (_:vs=[.ref L,.ref l]) (_:gb A H L dL r x s) (_:oR A Y H l hs) (_:jB hs<=100000) (_:∀r' p H',gb A H' L dL r' x {s with said:=true}->gf (foot L r x) H (foot L r' x) H'->p∉foot L r' x->H' p=some (.cM (bv ((if s.said=true then [] else [32])++hs.flatMap Rc28.packOne)))->Q (.ref p) H')
def aaZ(F:j5 K "block_of" "block_of" K6 f fd)(T:Txt K mg A)(aby:jQ P w K mg base "pack" dW 4 ["headers","fixed_ones"] (agz A)):dR P w K mg base dW 5 f fd ["line","headers"] (W5 A):=by
 refine F.mZ (N:=["line","headers","packed"]) (λ_ _ _ s H _ _ _ hr h nd0=>?_)
 . obtain⟨L,dL,r,x,s,Y,l,hs,rfl,h,hh,hln,q⟩:=h;refine⟨_,(ao (cB (i:=2) nd0 rfl (Or.inl rfl) (aU aby hr.lw (aa (pv 1) (aa (aQ (aaO 0 rfl) rfl) aK))))
    (ao (cV (iB (aaO 0 rfl)) (aG (aZ (pv 2))) bC)
    (ao (abu 0 qG rfl)
    (aG (aZ (iW El (jT (aa (cR T.Vl) aK)) (pv 2))))))),?_⟩
   obtain⟨fs,f1,f2⟩:=h.yd.fi;refine⟨_,rfl,rfl,h.ob,T.cN,T.Eh,JS,_,_,_,_,_,rfl,h.yd.ob,T.lZ,T.oF,qL,foot L r x,Y,l,x.fx,hs,rfl,hh,⟨fs,f1,f2⟩,hln,λp H1 hp e1 sm1=>?_⟩;have h1:=h.same sm1;have st1:gf (foot L r x) H (foot L r x) H1:=gf.same sm1 gf.refl;have pX:p∉foot L r x:=h.wL.out hp;have hpl:=CZ hs;refine⟨rfl,h1.ob,T.cN,T.rW,Ef,_,rfl,?_⟩;rw[h.said]
   cases hsa:s.said with
   |true=>
    rw[hsa,if_pos rfl]at q;refine cQ ⟨_,rfl,q r p H1 ?_ st1 pX e1⟩;have:({s with said:=true}:Ra)=s:=by cases s;simp only at hsa;subst hsa;rfl
    rw[this];exact h1
   |false=>
    rw[hsa,if_neg aW]at q;refine cY ⟨rfl,h1.ob,T.cN,T.rW,qg,?_⟩;rw[Ep];have o2:gm [L] H1 (L2.bM H1 L (.ins A.dF dL (bI {r with gn:=true}))):=gm.bM (.head _);have h2:=h1.say o2 aB;have st2:gf (foot L r x) H (foot L {r with gn:=true} x) (L2.bM H1 L (.ins A.dF dL (bI {r with gn:=true}))):=st1.trans (gf.of (o2.mono λy hy=>by rw[ak.mp hy];exact cC (j:=0) rfl) λ_ hy=>hy)
    have e2:L2.bM H1 L (.ins A.dF dL (bI {r with gn:=true})) p=some (.cM (bv (hs.flatMap Rc28.packOne))):=by
     rw[aM λz=>pX (by rw[z];exact cC (j:=0) rfl)];exact e1
    generalize L2.bM H1 L (.ins A.dF dL (bI {r with gn:=true}))=H2 at o2 h2 st2 e2;refine⟨by show 1<=sizeLine;decide,λp3 hp3=>⟨_,rfl,_,_,_,_,rfl,rfl,aB,by rw[aM (aD e2 hp3)];exact e2,by rw[cA,bw];show 1+_<=_;omega,λp4 hp4=>?_⟩⟩
    have sm4:cZ H2 (L2.bM (L2.bM H2 p3 (.cM [.int 32])) p4 (.cM ([.int 32]++bv (hs.flatMap Rc28.packOne)))):=(d7 hp3).trans (d7 hp4);refine q {r with gn:=true} p4 _ (h2.same sm4) (st2.trans (gf.same sm4 gf.refl)) ((h2.same (d7 hp3)).wL.out hp4) ?_;rw[aB,uH];rfl
inductive adQ(A:Ad)(vs:List V)(H:Hp)(Q:VK)(_:XK):Prop
 |mk (L dL:Addr) (r:gM) (x:Lx) (s:Ra) (id:Nat) (p:Addr) (b:Rb) (la:Bool) (_:vs=[.ref L,.int (id:Int),.ref p,.bl la]) (_:gb A H L dL r x s) (_:H p=some (.cM (bv b))) (_:p∉foot L r x) (_:0<b.length) (_:b.length<=131072) (_:s.out.length+300000<=sizeLine) (_:∀H',gb A H' L dL r x {s with out:=s.out++Rc28.blockOut 8 1 (if la=true then 1 else 0) id b}->gf (foot L r x) H (foot L r x) H'->Q .non H')
def sbI(A:Ad)(L dL:Addr)(r:gM)(x:Lx)(s:Ra)(id:Nat)(p:Addr)(la:Bool)(ps:Addr)(fl:Nat)(b:Rb)(H1:Hp)(i:Nat):St->Hp->Prop:=λσ' H'=>(∃t1 t2 t3 t4:Option V,σ'=[some (.ref L),some (.int (id:Int)),some (.ref p),some (.bl la),some (.ref ps),t1,t2,t3,t4])/\∃o:Rb,gb A H' L dL r x {s with out:=o}/\gf (foot L r x) H1 (foot L r x) H'/\o++O5 fl id b i=s.out++O5 fl id b 0
def ahV{o:Rb}{id:Nat}{b:Rb}(out:Rb)(hb:0<b.length)(hl:b.length<=131072)(e:o++O5 fl id b i=out++O5 fl id b 0):o.length<=out.length+131200:=by
 have:=j0 List.length e;rw[aF,aF,W0 fl id hb]at this;have:=vZ 8 1 fl id b;omega
def VP(F:j5 K "send_block" "send_block" Fo f fd)(T:Txt K mg A)(vM:jQ P w K mg base "pieces_of" dW 1 ["row"] Ut)(eY:jQ P w K mg base "send_frame" dW 2 ["line","kind","flags","stream","body"] (xr A)):dR P w K mg base dW 3 f fd ["line","number","block","last"] (adQ A):=by
 refine F.mZ (N:=["line","number","block","last","pieces","k","piece","kind","flags"]) (λ_ _ _ s H _ Q _ hr h nd0=>?_)
 . obtain⟨L,dL,r,x,s,id,p,b,la,rfl,h,hp,hpX,hb0,hb,hz,q⟩:=h;refine⟨_,(ao (cB (i:=4) nd0 rfl (Or.inl rfl) (aU vM hr.lw (aa (pv 2) aK)))
    (aG (wj b8 rfl (adx (by rfl) T.Bb (aa (pv 4) aK)) (Y6 rfl (xV (jY (i:=5) nd0 rfl (Or.inl rfl)) (xV (jY (i:=6) nd0 rfl (Or.inl rfl)) Rw))) (ao (cB (i:=7) nd0 rfl (Or.inl rfl) (Dc (bF pI (pv 5) bx (bO _)) (cR T.QF) (cR T.LR)))
    (ao (cB (i:=8) nd0 rfl (Or.inl rfl) (Dc (Hw (bF pI (pv 5) bx (bO _)) (Bs (iB (pv 3)))).pt (cR T.X8) bx))
    (ao (cV (bF pI (pv 5) (iW Em (bV bc (by rfl) T.gO aO (aa (pv 4) aK)) bx) (bO _)) (aG (MN (i:=8) nd0 rfl (Or.inl rfl) Rp (cR T.Yc))) bC)
    (aG (dz (aU eY hr.lw (aa (pv 0) (aa (pv 7) (aa (pv 8) (aa (pv 1) (aa (pv 6) aK)))))))))))))),?_⟩
   rw[<-W0 (if la=true then 1 else 0) id hb0]at q
   refine⟨_,rfl,p,b,rfl,hp,hb,λps as H1 hps e1 pc sm1=>?_⟩;have h1:=h.same sm1;have psX:ps∉foot L r x:=h.wL.out hps;have jB:as.length=nP b:=by rw[fj pc];unfold TX;rw[aC,iD]
   generalize hfl:(if la=true then 1 else 0)=fl at q
   have hfl2:fl<=1:=by rw[<-hfl];split<;>decide
   refine⟨_,rfl,ps,_,rfl,fH.of e1,Yj (J:=Ite K ps) (K:=K) (a:=ps) (n:=λi=>((i:Nat):Int)) (xs:=as.map V.ref) (λi H xs x a b=>⟨xs,x,a,b⟩) (λi H v H' z=>z) (λi H xs a b=>⟨xs,a,b⟩)
    (sbI A L dL r x s id p la ps fl b H1)
    ⟨⟨none,none,none,none,rfl⟩,s.out,h1,gf.refl,rfl⟩ (λi σ H2 _ z=>?_) ?_ ?_⟩
   . obtain⟨_,o,_,st,_⟩:=z;exact fH.of (st.1 _ _ e1 psX)
   . rintro i y σ H2 T0 hi ⟨⟨t1,t2,t3,t4,rfl⟩,o,h2,st2,eo⟩ hT0;obtain⟨a,ha,rfl⟩:=BW hi;obtain⟨c,hc,ec,fa⟩:=L2.gW pc ha;have hin:i<nP b:=by rw[<-jB];exact(bh.mp ha).1
     have hc':c=zV b i:=by
      unfold TX at hc;rw[bA,nW hin]at hc;exact(cz hc).symm
     subst hc';have aX:a∉foot L r x:=h.wL.out fa.1;have ea2:=st2.1 _ _ ec aX;have eps2:=st2.1 _ _ e1 psX;have sm3:cZ H2 (L2.bM H2 T0 (.tup [.int ((i:Nat):Int),.ref a])):=d7 hT0;refine⟨T0,_,rfl,Bx.of aB,rfl,_,_,rfl,_,_,rfl,rfl,?_⟩;generalize L2.bM H2 T0 (.tup [.int ((i:Nat):Int),.ref a])=H3 at sm3;have h3:=h2.same sm3;have hlo:=ahV s.out hb0 hb eo;have hpl:=WY b i;have fin:∀(k f':Nat)(t7 t8:Option V),k<256->f'<256->Rc28.frame k f' id (zV b i)++O5 fl id b (i+1)=O5 fl id b i ->
      yX (uc (xr A) [] E0 (fG (iw 0) (fG (iw 7) (fG (iw 8) (fG (iw 1) (fG (iw 6) oO)))))) {nx:=sbI A L dL r x s id p la ps fl b H1 (i+1),ct:=sbI A L dL r x s id p la ps fl b H1 (i+1),bk:=λ_ H'=>Q .non H',rt:=Q}
       [some (.ref L),some (.int (id:Int)),some (.ref p),some (.bl la),some (.ref ps),some (.int ((i:Nat):Int)),some (.ref a),some (.int (k:Int)),some (.int (f':Int))] H3:=by
      intro k f' t7 t8 hk hf' ef;refine⟨_,rfl,_,rfl,_,rfl,_,rfl,_,rfl,L,dL,r,o,k,f',id,a,zV b i,rfl,h3.ob,h3.out,sm3 _ _ ea2,λz=>aX (by rw[z];exact cC (j:=5) rfl),hk,hf',by omega,λH4 e4 o4=>?_⟩
      refine⟨⟨_,_,_,_,rfl⟩,o++Rc28.frame k f' id (zV b i),h3.acC o4 e4,st2.trans (gf.same sm3 (gf.of (o4.mono yc) λ_ hy=>hy)),?_⟩;rw[iC,ef];exact eo
     have step:=aeI (fl:=fl) (id:=id) hb hin;refine⟨_,rfl,rfl,_,rfl,?_⟩;rw[Js];have hlen':(((as.map V.ref).length:Nat):Int)-1=((nP b-1:Nat):Int):=by rw[aC,jB];omega
     by_cases h0:i=0
     . subst h0;rw[az rfl];refine cQ ⟨_,rfl,rfl,_,rfl,?_⟩;rw[Js,az rfl];refine cQ ⟨_,rfl,_,rfl,?_⟩;have nx:∀v:Nat,v=fl->Dq (acJ (Ql (tOp rEq (iw 5) (tOp (rI0 λi j=>.int (i-j)) (tCB (λxs H Q=>∃p ys,xs=[V.ref p]/\(fH K H p ys\/Bx K H p ys)/\Q (.int ys.length) H) (fG (iw 4) oO)) (tC (.int 1))))) (ajO 8 (tC (.int 4)) (rI0 λi j=>.int (i+j))) J0) (yX (uc (xr A) [] E0 (fG (iw 0) (fG (iw 7) (fG (iw 8) (fG (iw 1) (fG (iw 6) oO)))))))
        {nx:=sbI A L dL r x s id p la ps fl b H1 (0+1),ct:=sbI A L dL r x s id p la ps fl b H1 (0+1),bk:=λ_ H'=>Q .non H',rt:=Q}
        [some (.ref L),some (.int (id:Int)),some (.ref p),some (.bl la),some (.ref ps),some (.int ((0:Nat):Int)),some (.ref a),some (.int 1),some (.int (v:Int))] H3:=by
        rintro v rfl;refine⟨_,rfl,_,rfl,_,_,rfl,.inl (fH.of (sm3 _ _ eps2)),_,_,rfl,rfl,rfl,_,rfl,?_⟩;show if decide (V.int ((0:Nat):Int)=V.int ((((as.map V.ref).length:Nat):Int)-1))=true then _ else _
        rw[hlen',Jt];by_cases hl:0=nP b-1
        . rw[az hl];refine cQ ⟨_,rfl,_,_,rfl,rfl,?_⟩;have e4:(v:Int)+4=((v+4:Nat):Int):=by omega
          have fz:=fin 1 (v+4) none none (by decide) (by omega) (by rw[step,if_pos rfl,if_pos rfl,if_pos (by omega)]);rw[<-e4]at fz;exact fz
        . rw[aq hl];refine cY (fin 1 v none none (by decide) (by omega) ?_);rw[step,if_pos rfl,if_pos rfl,if_neg (by omega)];rfl
       cases la with
       |true=>exact cQ (nx 1 hfl)
       |false=>exact cY (nx 0 hfl)
     . rw[aq h0];refine cY ⟨_,rfl,rfl,_,rfl,?_⟩;rw[Js,aq h0];refine cY (cY ?_);refine⟨_,rfl,_,rfl,_,_,rfl,.inl (fH.of (sm3 _ _ eps2)),_,_,rfl,rfl,rfl,_,rfl,?_⟩;show if decide (V.int ((i:Nat):Int)=V.int ((((as.map V.ref).length:Nat):Int)-1))=true then _ else _
       rw[hlen',Jt];by_cases hl:i=nP b-1
       . rw[az hl];refine cQ ⟨_,rfl,_,_,rfl,rfl,?_⟩;refine fin 9 4 none none (by decide) (by decide) ?_;rw[step,if_neg h0,if_neg h0,if_pos (by omega)]
       . rw[aq hl];refine cY (fin 9 0 none none (by decide) (by decide) ?_);rw[step,if_neg h0,if_neg h0,if_neg (by omega)]
   . rintro σ H2 ⟨⟨t1,t2,t3,t4,rfl⟩,o,h2,st2,eo⟩;rw[aC,jB,ago,eQ]at eo;rw[<-eo]at q;exact q H2 h2 (gf.same sm1 st2)
def rD(fl id:Nat):List Rb->Rb
 |[]=>[]
 |[c]=>Rc28.frame 0 fl id c
 |c::d::r=>Rc28.frame 0 0 id c++rD fl id (d::r)
def adz{id:Nat}{bs:List Rb}{c:Rb}(h:bs[i]? = some c):rD fl id (bs.drop i)=Rc28.frame 0 (if i+1=bs.length then fl else 0) id c++rD fl id (bs.drop (i+1)):=by
 obtain⟨hl,e⟩:=bh.mp h;have hd:bs.drop i=c::bs.drop (i+1):=by rw[<-e];exact iy hl
 rw[hd]
 cases hr:bs.drop (i+1) with
 |nil=>
  have:bs.length<=i+1:=qz.mp hr;rw[if_pos (by omega)];show _=_++[]
  rw[eQ];rfl
 |cons d r=>
  have:¬i+1=bs.length:=λz=>by rw[eU (by omega)]at hr;cases hr
  rw[if_neg this];rfl
def MJ(b:Rb):(TX b).length=nP b:=by unfold TX;rw[aC,iD]
def ajv{b:Rb}(h:i<nP b):(TX b)[i]? = some (zV b i):=by unfold TX;rw[bA,nW h];rfl
theorem agg{fl id:Nat}{b:Rb}(hb:b.length<=131072):∀(m k:Nat),nP b-k=m->rD fl id ((TX b).drop k)=acw fl id b k
 |0,k,h=>by
  rw[eU (by rw[MJ];omega)]
  unfold acw;rw[if_neg (by omega)];rfl
 |m+1,k,h=>by
  have hk:k<nP b:=by omega
  rw[adz (ajv hk),agg hb m (k+1) (by omega),aeJ hb hk,MJ]
def ahU{id:Nat}{b:Rb}(hb:b.length<=131072)(h0:0<b.length):rD fl id (TX b)=Rc28.dataOut 8 fl id b:=by
 have:=agg (fl:=fl) (id:=id) hb _ 0 rfl;rw[lH]at this;rw[this,aeK fl id h0]
theorem agf(fl id:Nat):∀bs:List Rb,(rD fl id bs).length<=(bs.map λc=>9+c.length).sum
 |[]=>aH _
 |[c]=>by show (Rc28.frame 0 fl id c).length<=_;rw[ur];simp
 |c::d::r=>by
  have:=agf fl id (d::r);show (Rc28.frame 0 0 id c++rD fl id (d::r)).length<=_
  rw[aF,ur,bG,jq];omega
def sdI(A:Ad)(L dL:Addr)(r:gM)(x:Lx)(s:Ra)(id:Nat)(p:Addr)(en:Bool)(ps:Addr)(fl:Nat)(bs:List Rb)(H1:Hp)(i:Nat):St->Hp->Prop:=λσ' H'=>(∃t1 t2 t3:Option V,σ'=[some (.ref L),some (.int (id:Int)),some (.ref p),some (.bl en),some (.ref ps),t1,t2,t3])/\∃o:Rb,gb A H' L dL r x {s with out:=o}/\gf (foot L r x) H1 (foot L r x) H'/\o++rD fl id (bs.drop i)=s.out++rD fl id bs
def Yg(en:Bool)(id:Nat)(b:Rb):Rb:=if b.length=0/\en=false then [] else Rc28.dataOut 8 (if en=true then 1 else 0) id b
inductive Zz(A:Ad)(vs:List V)(H:Hp)(Q:VK)(_:XK):Prop
 |mk (L dL:Addr) (r:gM) (x:Lx) (s:Ra) (id:Nat) (p:Addr) (b:Rb) (en:Bool) (_:vs=[.ref L,.int (id:Int),.ref p,.bl en]) (_:gb A H L dL r x s) (_:H p=some (.cM (bv b))) (_:p∉foot L r x) (_:b.length<=131072) (_:s.out.length+300000<=sizeLine) (_:∀H',gb A H' L dL r x {s with out:=s.out++Yg en id b}->gf (foot L r x) H (foot L r x) H'->Q .non H')
def JB(F:j5 K "send_data_frames" "send_data_frames" vG f fd)(T:Txt K mg A)(vM:jQ P w K mg base "pieces_of" dW 1 ["row"] Ut)(eY:jQ P w K mg base "send_frame" dW 2 ["line","kind","flags","stream","body"] (xr A)):
 dR P w K mg base dW 3 f fd ["line","number","row","ends"] (Zz A):=by
 refine F.mZ (N:=["line","number","row","ends","pieces","k","piece","flags"]) (λ_ _ _ s H _ Q _ hr h nd0=>?_)
 . obtain⟨L,dL,r,x,s,id,p,b,en,rfl,h,hp,hpX,hb,hz,q⟩:=h;refine⟨_,(ao (cB (i:=4) nd0 rfl (Or.inl rfl) (aU vM hr.lw (aa (pv 2) aK)))
    (ao (cV (Hw (iB (pv 3)) (Bs (bF pI (bV bc (by rfl) T.gO aO (aa (pv 4) aK)) bx (bO _)))).pt (aG (dz (uR bB fQ fV vQ (pv 4) (aa (jT aK) aK)))) bC)
    (aG (wj b8 rfl (adx (by rfl) T.Bb (aa (pv 4) aK)) (Y6 rfl (xV (jY (i:=5) nd0 rfl (Or.inl rfl)) (xV (jY (i:=6) nd0 rfl (Or.inl rfl)) Rw))) (ao (cB (i:=7) nd0 rfl (Or.inl rfl) (Dc (Hw (iB (pv 3)) (Bs (bF pI (pv 5) (iW Em (bV bc (by rfl) T.gO aO (aa (pv 4) aK)) bx) (bO _)))).pt (cR T.X8) bx))
    (aG (dz (aU eY hr.lw (aa (pv 0) (aa (cR T.X6) (aa (pv 7) (aa (pv 1) (aa (pv 6) aK))))))))))))),?_⟩
   refine⟨_,rfl,p,b,rfl,hp,hb,λps as H1 hps e1 pc sm1=>?_⟩;have loop:∀(H1:Hp)(as:List Addr)(bs:List Rb),cZ H H1->H1 ps=some (.cM (as.map V.ref))->aiH (λy=>H y=none/\y≠ps) H1 as bs->bs.length<=8->(∀c∈bs,c.length<=16384)->rD (if en=true then 1 else 0) id bs=Yg en id b ->
    ak5 (ais K (fG (iw 4) oO)) (akA K 2 (afD (Bp 5) (afD (Bp 6) akz))) (Dq (agH (tIf (ak2 (tB (iw 3)) (Ql (tOp rEq (iw 5) (tOp (rI0 λi j=>.int (i-j)) (tCB (λxs H Q=>∃p ys,xs=[V.ref p]/\(fH K H p ys\/Bx K H p ys)/\Q (.int ys.length) H) (fG (iw 4) oO)) (tC (.int 1)))))) (tC (.int 1)) (tC (.int 0))) (Bp 7)) (yX (uc (xr A) [] E0 (fG (iw 0) (fG (tC (.int 0)) (fG (iw 7) (fG (iw 1) (fG (iw 6) oO))))))))
     {nx:=λ_ H'=>Q .non H',rt:=Q} [some (.ref L),some (.int (id:Int)),some (.ref p),some (.bl en),some (.ref ps),none,none,none] H1:=by
    intro H1 as bs sm1 e1 pc hb8 hcl er;have h1:=h.same sm1;have psX:ps∉foot L r x:=h.wL.out hps;have jB:=fj pc;generalize hfl:(if en=true then 1 else 0)=fl at er
    have hfl2:fl<=1:=by rw[<-hfl];split<;>decide
    have hrl:=agf fl id bs;have hsum:(bs.map λc=>9+c.length).sum<=8*16393:=by
     have:∀l:List Rb,(∀c∈l,c.length<=16384)->(l.map λc=>9+c.length).sum<=l.length*16393:=λl=>by
      induction l with
      |nil=>intro _;exact aH _
      |cons c l ih=>
       intro hc;have h1:=ih λd hd=>hc d (.tail _ hd);have h2:=hc c (.head _);rw[bG,jq,bj];omega
     have:=this bs hcl;omega
    refine⟨_,rfl,ps,_,rfl,fH.of e1,Yj (J:=Ite K ps) (K:=K) (a:=ps) (n:=λi=>((i:Nat):Int)) (xs:=as.map V.ref) (λi H xs x a b=>⟨xs,x,a,b⟩) (λi H v H' z=>z) (λi H xs a b=>⟨xs,a,b⟩)
     (sdI A L dL r x s id p en ps fl bs H1)
     ⟨⟨none,none,none,rfl⟩,s.out,h1,gf.refl,rfl⟩ (λi σ H2 _ z=>?_) ?_ ?_⟩
    . obtain⟨_,o,_,st,_⟩:=z;exact fH.of (st.1 _ _ e1 psX)
    . rintro i y σ H2 T0 hi ⟨⟨t1,t2,t3,rfl⟩,o,h2,st2,eo⟩ hT0;obtain⟨a,ha,rfl⟩:=BW hi;obtain⟨c,hc,ec,fa⟩:=L2.gW pc ha;have aX:a∉foot L r x:=h.wL.out fa.1;have ea2:=st2.1 _ _ ec aX;have eps2:=st2.1 _ _ e1 psX;have sm3:cZ H2 (L2.bM H2 T0 (.tup [.int ((i:Nat):Int),.ref a])):=d7 hT0;refine⟨T0,_,rfl,Bx.of aB,rfl,_,_,rfl,_,_,rfl,rfl,?_⟩;generalize L2.bM H2 T0 (.tup [.int ((i:Nat):Int),.ref a])=H3 at sm3;have h3:=h2.same sm3;have hol:o.length<=s.out.length+8*16393:=by
       have:=j0 List.length eo;rw[aF,aF]at this;omega
      have hcl':=hcl c (cD hc);have step:=adz (fl:=fl) (id:=id) hc;have fin:∀(f':Nat),f'=(if i+1=bs.length then fl else 0) ->
       yX (uc (xr A) [] E0 (fG (iw 0) (fG (tC (.int 0)) (fG (iw 7) (fG (iw 1) (fG (iw 6) oO)))))) {nx:=sdI A L dL r x s id p en ps fl bs H1 (i+1),ct:=sdI A L dL r x s id p en ps fl bs H1 (i+1),bk:=λ_ H'=>Q .non H',rt:=Q}
        [some (.ref L),some (.int (id:Int)),some (.ref p),some (.bl en),some (.ref ps),some (.int ((i:Nat):Int)),some (.ref a),some (.int (f':Int))] H3:=by
       intro f' ef;refine⟨_,rfl,_,rfl,_,rfl,_,rfl,L,dL,r,o,0,f',id,a,c,rfl,h3.ob,h3.out,sm3 _ _ ea2,λz=>aX (by rw[z];exact cC (j:=5) rfl),by decide,by rw[ef];split<;>omega,by omega,λH4 e4 o4=>?_⟩
       refine⟨⟨_,_,_,rfl⟩,o++Rc28.frame 0 f' id c,h3.acC o4 e4,st2.trans (gf.same sm3 (gf.of (o4.mono yc) λ_ hy=>hy)),?_⟩;rw[iC,ef,<-step];exact eo
      have hlen':(((as.map V.ref).length:Nat):Int)-1=((bs.length-1:Nat):Int):=by
       have:i<as.length:=(bh.mp ha).1;rw[aC,jB];omega
      have hil:i<bs.length:=by rw[<-jB];exact(bh.mp ha).1
      refine⟨_,rfl,_,rfl,?_⟩
      cases en with
      |false=>
       refine cY (cY (fin 0 ?_));rw[<-hfl];split<;>rfl
      |true=>
       refine cQ ⟨_,rfl,_,rfl,_,_,rfl,.inl (fH.of (sm3 _ _ eps2)),_,_,rfl,rfl,rfl,_,rfl,?_⟩;show if decide (V.int ((i:Nat):Int)=V.int ((((as.map V.ref).length:Nat):Int)-1))=true then _ else _
       rw[hlen',Jt];by_cases hl:i=bs.length-1
       . rw[az hl];refine cQ (fin 1 ?_);rw[<-hfl,if_pos (by omega)];rfl
       . rw[aq hl];refine cY (fin 0 ?_);rw[if_neg (by omega)]
    . rintro σ H2 ⟨⟨t1,t2,t3,rfl⟩,o,h2,st2,eo⟩;rw[aC,jB,lO]at eo;have eo:o=s.out++Yg en id b:=by rw[<-er,<-eo];exact(eQ o).symm
      rw[<-eo]at q;exact q H2 h2 (gf.same sm1 st2)
   have jB:as.length=nP b:=by rw[fj pc,MJ]
   have hcl:∀c∈TX b,c.length<=16384:=λc hc=>by
    unfold TX at hc;obtain⟨i,_,rfl⟩:=fL.mp hc;exact WY b i
   have h8:nP b<=8:=by unfold nP;omega
   have er0:¬(b.length=0/\en=true)->rD (if en=true then 1 else 0) id (TX b)=Yg en id b:=λhn=>by
    unfold Yg;by_cases h0:b.length=0
    . have:en=false:=by cases en with|true=>exact absurd ⟨h0,rfl⟩ hn|false=>rfl
      rw[if_pos (show b.length=0/\en=false from ⟨h0,this⟩)];have:b=[]:=gq.mp h0;rw[this];rfl
    . rw[if_neg (show ¬(b.length=0/\en=false) from λz=>h0 z.1)];exact ahU hb (by omega)
   refine⟨_,rfl,_,rfl,?_⟩
   cases en with
   |false=>exact cY (cY (loop H1 as (TX b) sm1 e1 pc (by rw[MJ];exact h8) hcl (er0 λz=>aW z.2)))
   |true=>
    refine cQ ⟨_,rfl,_,_,rfl,.inl (fH.of e1),rfl,_,rfl,?_⟩;rw[aC,jB,Js];by_cases h0:nP b=0
    . rw[az h0];have hb0:b=[]:=gq.mp (by unfold nP at h0;omega)
      have has:as=[]:=gq.mp (by omega);subst hb0 has;refine cQ ⟨_,rfl,.inl ⟨rfl,_,fH.of e1⟩,by decide,λe he=>?_⟩;have nps:ps≠e:=aD e1 he;refine⟨_,_,_,rfl,rfl,by rw[aM nps];exact e1,by show 0<sizeLine;decide,?_⟩
      refine loop _ [e] [[]] (λc u ee=>?_) aB (.cons ⟨by rw[aM (Ne.symm nps)];exact aB,cZ.none sm1 he,Ne.symm nps⟩ .nil) (by decide) (λc hc=>by rw[ak.mp hc];exact bW _) rfl
      rw[aM (aD ee hps),aM (aD (sm1 _ _ ee) he)];exact sm1 _ _ ee
    . rw[aq h0];exact cY (loop H1 as (TX b) sm1 e1 pc (by rw[MJ];exact h8) hcl (er0 λz=>h0 (by unfold nP;rw[z.1])))
inductive Zt(A:Ad)(vs:List V)(H:Hp)(Q:VK)(_:XK):Prop
 |mk (L dL:Addr) (r:gM) (x:Lx) (s:Ra) (id:Nat) (y:Rt) (_:vs=[.ref L,.int (id:Int)]) (_:gb A H L dL r x s) (_:Rc28.find s id=some y) (_:s.out.length+200<=sizeLine) (_:∀x' H',gb A H' L dL r x' (Rc28.ended s id)->gf (foot L r x) H (foot L r x') H'->Q .non H')
def aek{l:List Rt}{id:Nat}:∀y∈foot L r {x with as:=uG x.as l id},y∈foot L r x:=λy hy=>by
 have:List.Sublist (foot L r {x with as:=uG x.as l id}) (foot L r x):=by
  unfold foot;exact .cons₂ _ (.cons₂ _ (.cons₂ _ (.cons₂ _ (.cons₂ _ (.cons₂ _ (.cons₂ _ (List.Sublist.append_left (tu _ _ _) _)))))))
 exact this.mem hy
def VG(F:j5 K "end_stream" "end_stream" Fe f fd)(T:Txt K mg A)(dC:jQ P w K mg base "fail_stream" dW 3 ["line","number","code"] (yN A)):dR P w K mg base dW 4 f fd ["line","number"] (Zt A):=by
 refine F.mZ (N:=["line","number"]) (λ_ _ _ s H _ _ _ hr h _=>?_)
 . obtain⟨L,dL,r,x,s,id,y,rfl,h,hy,hz,q⟩:=h;have hu:=zO hr;refine⟨_,(aG (cV (iB (aQ (MK hu (aaO 0 rfl) (pv 1) (λ_ _=>rfl)) rfl)) (aG (dz (aU dC hr.lw (aa (pv 0) (aa (pv 1) (aa (cR T.oA) aK)))))) (aG (dz (TY (aaO 0 rfl) (pv 1) ⟨rfl,rfl,rfl,rfl⟩))))),?_⟩;rcases Bu h.tZ.st id with⟨v1,v2⟩|⟨i,y',a,v1,v2,v3,v4,⟨da,rs,s1,s2,s3,s4⟩,v6⟩
   . rw[show Rc28.find s id=none from v1]at hy;cases hy
   . rw[show Rc28.find s id=some y' from v1]at hy
     cases hy;have dg:uY H r.streams (.int (id:Int)) (some (.ref a)):=by have:=uY.k (k:=.inl (id:Int)) h.tZ.ob;rw[v2]at this;exact this
     refine⟨rfl,h.ob,T.cN,T.eV,eN,_,rfl,r.streams,.ref a,rfl,dg,_,_,_,_,_,rfl,s1,T.nF,T.jJ,qm,_,rfl,?_⟩;rw[s3];unfold Rc28.ended at q;rw[show Rc28.find s id=some y from v1]at q;dsimp only at q
     cases hc:y.comes with
     |true=>
      rw[hc,if_pos rfl]at q;exact cQ ⟨_,rfl,_,rfl,L,dL,r,x,s,id,0,rfl,h,hz,λx' H' h' hX o'=>q x' H' h' (gf.of o' hX)⟩
     |false=>
      rw[hc,if_neg aW]at q;refine cY ⟨rfl,h.ob,T.cN,T.eV,eN,r.streams,rfl,.inl ⟨_,.inl h.tZ.ob⟩,_,rfl,_,_,_,h.tZ.ob,rfl,v2,?_⟩;have o3:gm [r.streams] H (L2.bM H r.streams (.dK (Bl (qD x.as s.streams) (.inl (id:Int))))):=gm.bM (.head _);exact q _ _ (h.Yh o3 aB) (gf.of (o3.mono λy hy=>by rw[ak.mp hy];exact cC (j:=2) rfl) aek)
def adt{b:Rb}(h:b.length<=2):Rc28.num b<65536:=by
 have h1:=aci b.length b rfl;have h2:256^b.length<=256^2:=Nat.pow_le_pow_right (by decide) h;omega
inductive adO(A:Ad)(vs:List V)(H:Hp)(Q:VK)(_:XK):Prop
 |mk (a:Addr) (b:Rb) (_:vs=[.ref a]) (_:H a=some (.cM (bv b))) (_:b.length<=100000) (_:(hd b=none->∀H',cZ H H'->Q .non H')) (_:∀hs p as H',hd b=some hs->H p=none->H' p=some (.cM (as.map V.ref))->Paired (HdF A (λy=>H y=none) H') as hs->cZ H H'->Q (.ref p) H')
def QZ(F:j5 K "read_headers" "read_headers" Af f fd)(T:Txt K mg A)(du:jQ P w K mg base "number_of_bytes" dW 1 ["row"] (Us K))(mF:DQ P w K mg base "Header" A.Header 1 ["self","name","value"] (wH A)):dR P w K mg base dW 3 f fd ["row"] (adO A):=by
 refine F.mZ (N:=["row","headers","place","name_length","name_begin","value_length","value_begin"]) (λ_ _ _ _ H _ _ _ hr h nd0=>?_)
 . obtain⟨a,b,rfl,ha,hb,qn,q⟩:=h;refine⟨_,(ao (cB (i:=1) nd0 rfl (Or.inl rfl) (jT aK))
    (ao (cB (i:=2) nd0 rfl (Or.inl rfl) bx)
    (ao (De b8 (bF yS (pv 2) (bV bc (by rfl) T.gO aO (aa (pv 0) aK)) (bO _)) (ao (cB (i:=3) nd0 rfl (Or.inl rfl) (aU du hr.lw (aa (jz lG (pv 0) (iu (pv 2)) (iu (iW oG (pv 2) (cR T.zN)))) aK)))
    (ao (cB (i:=4) nd0 rfl (Or.inl rfl) (iW oG (pv 2) (iW acq bx (cR T.zN))))
    (ao (cB (i:=5) nd0 rfl (Or.inl rfl) (aU du hr.lw (aa (jz lG (pv 0) (iu (iW oG (pv 2) (cR T.zN))) (iu (pv 4))) aK)))
    (ao (cB (i:=6) nd0 rfl (Or.inl rfl) (iW oG (pv 4) (pv 3)))
    (ao (cB (i:=2) nd0 rfl (Or.inl rfl) (iW oG (pv 6) (pv 5)))
    (ao (cV (bF qF (pv 2) (bV bc (by rfl) T.gO aO (aa (pv 0) aK)) (bO _)) (aG (aZ yu)) bC)
    (aG (dz (uR bB fQ fV vQ (pv 1) (aa (qt mF hr.lw (aa (jz lG (pv 0) (iu (pv 4)) (iu (pv 6))) (aa (jz lG (pv 0) (iu (pv 6)) (iu (pv 2))) aK))) aK)))))))))))
    (aG (aZ (pv 1)))))),?_⟩
   refine⟨by decide,λp hp=>?_⟩;refine⟨λk σ H2=>∃(pl:Nat)(hs:List Rh)(as:List Addr)(t3 t4 t5 t6:Option V),k=b.length-pl/\pl<=b.length/\σ=[some (.ref a),some (.ref p),some (.int (pl:Int)),t3,t4,t5,t6]/\cZ H H2/\H2 p=some (.cM (as.map V.ref))/\Paired (HdF A (λy=>H y=none/\y≠p) H2) as hs/\hd b=(hd (b.drop pl)).map (hs++·)/\hs.length<=pl,
    ⟨_,0,[],[],none,none,none,none,rfl,bW _,rfl,d7 hp,aB,.nil,by rw[lH];cases hd b<;>rfl,aH _⟩,?_⟩
   rintro k σ H2 ⟨pl,hs,as,t3,t4,t5,t6,rfl,hpl,rfl,sm,ep,pr,ehd,hsl⟩;have ha2:=sm _ _ ha;refine⟨_,rfl,_,rfl,_,_,rfl,.inl (fH.of ha2),_,_,rfl,rfl,_,rfl,?_⟩;rw[cA];by_cases hlt:pl<b.length
   . rw[show decide ((pl:Int)<((b.length:Nat):Int))=true from az (by omega)];refine cQ ⟨_,λ_ _ z=>z,?_⟩;have hrl:(b.drop pl).length=b.length-pl:=bu;rw[adi (b:=b.drop pl) (by omega)]at ehd;have e1:(b.drop pl).take 2=(b.drop pl).take 2:=rfl;refine⟨_,rfl,_,rfl,_,rfl,_,rfl,_,_,rfl,rfl,_,rfl,_,_,rfl,fH.of ha2,λp3 hp3=>?_⟩;rw[show (some ((pl:Int)+2))=some ((pl:Int)+((2:Nat):Int)) from rfl,CQ,<-uq,<-pY];refine⟨p3,_,rfl,fH.of aB,by rw[aY];omega,?_⟩
     have sm3:=sm.trans (d7 (o:=.cM (bv ((b.drop pl).take 2))) hp3);have k3:cZ H2 (L2.bM H2 p3 (.cM (bv ((b.drop pl).take 2)))):=d7 hp3;generalize L2.bM H2 p3 (.cM (bv ((b.drop pl).take 2)))=H3 at sm3 k3;have hn:=adt (b:=(b.drop pl).take 2) (by rw[aY];omega)
     generalize Rc28.num ((b.drop pl).take 2)=n at ehd hn;refine⟨_,rfl,_,_,rfl,rfl,.inl ⟨by decide,by decide⟩,_,_,rfl,rfl,?_⟩;refine⟨_,rfl,_,rfl,_,_,rfl,rfl,_,rfl,_,rfl,_,rfl,_,_,rfl,fH.of (sm3 _ _ ha),λp5 hp5=>?_⟩;rw[show (some ((pl:Int)+2))=some (((pl+2:Nat):Int)) by congr 1,show (some ((pl:Int)+2*2))=some (((pl+2:Nat):Int)+((2:Nat):Int)) by congr 1<;>omega,CQ,<-uq,<-pY,show b.drop (pl+2)=(b.drop pl).drop 2 by rw[gw]];refine⟨p5,_,rfl,fH.of aB,by rw[aY,bu];omega,?_⟩
     have sm5:=sm3.trans (d7 (o:=.cM (bv (((b.drop pl).drop 2).take 2))) hp5);have k5:cZ H3 (L2.bM H3 p5 (.cM (bv (((b.drop pl).drop 2).take 2)))):=d7 hp5;generalize L2.bM H3 p5 (.cM (bv (((b.drop pl).drop 2).take 2)))=H5 at sm5 k5;have hv:=adt (b:=((b.drop pl).drop 2).take 2) (by rw[aY];omega)
     generalize Rc28.num (((b.drop pl).drop 2).take 2)=v at ehd hv;refine⟨_,rfl,_,rfl,_,_,rfl,rfl,_,rfl,_,rfl,_,_,rfl,rfl,?_⟩;refine⟨_,rfl,_,rfl,_,_,rfl,.inl (fH.of (sm5 _ _ ha)),_,_,rfl,rfl,_,rfl,?_⟩;rw[cA];by_cases hov:b.length<pl+4+n+v
     . rw[show decide ((pl:Int)+2*2+((n:Nat):Int)+((v:Nat):Int)>((b.length:Nat):Int))=true from az (by omega)];rw[if_pos (by omega)]at ehd;exact cQ (qn ehd H5 sm5)
     . rw[show decide ((pl:Int)+2*2+((n:Nat):Int)+((v:Nat):Int)>((b.length:Nat):Int))=false from aq (by omega)];rw[if_neg (by omega)]at ehd;have ep5:=k5 _ _ (k3 _ _ ep);refine cY ⟨_,rfl,.inl ⟨rfl,_,fH.of ep5⟩,_,rfl,_,rfl,_,rfl,_,rfl,_,rfl,_,_,rfl,fH.of (sm5 _ _ ha),λp6 hp6=>?_⟩;rw[show (some ((pl:Int)+2*2))=some (((pl+4:Nat):Int)) by congr 1<;>omega,show (some ((pl:Int)+2*2+((n:Nat):Int)))=some (((pl+4:Nat):Int)+((n:Nat):Int)) by congr 1<;>omega,CQ,<-uq,<-pY,show b.drop (pl+4)=(b.drop pl).drop 4 by rw[gw]];have k6:cZ H5 (L2.bM H5 p6 (.cM (bv (((b.drop pl).drop 4).take n)))):=d7 hp6;have e6:L2.bM H5 p6 (.cM (bv (((b.drop pl).drop 4).take n))) p6=some (.cM (bv (((b.drop pl).drop 4).take n))):=aB;generalize L2.bM H5 p6 (.cM (bv (((b.drop pl).drop 4).take n)))=H6 at k6 e6;have sm6:=sm5.trans k6;refine⟨_,rfl,_,rfl,_,rfl,_,rfl,_,rfl,_,_,rfl,fH.of (sm6 _ _ ha),λp7 hp7=>?_⟩;rw[show (some ((pl:Int)+2*2+((n:Nat):Int)))=some (((pl+4+n:Nat):Int)) by congr 1<;>omega,show (some ((pl:Int)+2*2+((n:Nat):Int)+((v:Nat):Int)))=some (((pl+4+n:Nat):Int)+((v:Nat):Int)) by congr 1<;>omega,CQ,<-uq,<-pY,show b.drop (pl+4+n)=(b.drop pl).drop (4+n) by rw[gw];congr 1<;>omega]
       have k7:cZ H6 (L2.bM H6 p7 (.cM (bv (((b.drop pl).drop (4+n)).take v)))):=d7 hp7;have e7:L2.bM H6 p7 (.cM (bv (((b.drop pl).drop (4+n)).take v))) p7=some (.cM (bv (((b.drop pl).drop (4+n)).take v))):=aB;generalize L2.bM H6 p7 (.cM (bv (((b.drop pl).drop (4+n)).take v)))=H7 at k7 e7;have sm7:=sm6.trans k7;intro hx hdx hhx hhdx hne;refine⟨hx,hdx,p6,p7,rfl,aB,rfl,?_⟩;rw[jc];have k8:cZ H7 (L2.bM (L2.bM H7 hdx (.own hx)) hx (.ins A.Header hdx (rF p6 p7))):=λc u e=>by rw[aM (aD e hhx),aM (aD e hhdx)];exact e
       have e8:L2.bM (L2.bM H7 hdx (.own hx)) hx (.ins A.Header hdx (rF p6 p7)) hx=some (.ins A.Header hdx (rF p6 p7)):=aB;generalize L2.bM (L2.bM H7 hdx (.own hx)) hx (.ins A.Header hdx (rF p6 p7))=H8 at k8 e8;have k28:=((k3.trans k5).trans (k6.trans k7)).trans k8;have ep8:=k28 _ _ ep;have nep:∀{y:Addr}{Hy:Hp},cZ H2 Hy->Hy y=none->H y=none/\y≠p:=fun {y Hy} ks hy=>⟨cZ.none (sm.trans ks) hy,λz=>by rw[z,ks _ _ ep]at hy;cases hy⟩
       refine⟨_,_,_,rfl,rfl,ep8,by rw[aC,fj pr,bw];omega,?_⟩
       refine⟨b.length-(pl+4+n+v),by omega,pl+4+n+v,hs++[(((b.drop pl).drop 4).take n,((b.drop pl).drop (4+n)).take v)],as++[hx],some (.int (n:Int)),some (.int ((pl:Int)+2*2)),some (.int (v:Int)),some (.int ((pl:Int)+2*2+(n:Int))),rfl,by omega,?_,?_,?_,?_,?_,?_⟩
       . show [some (V.ref a),some (V.ref p),some (V.int ((pl:Int)+2*2+((n:Nat):Int)+((v:Nat):Int))),some (V.int (n:Int)),some (V.int ((pl:Int)+2*2)),some (V.int (v:Int)),some (V.int ((pl:Int)+2*2+(n:Int)))]=_
         rw[show (pl:Int)+2*2+((n:Nat):Int)+((v:Nat):Int)=((pl+4+n+v:Nat):Int) by omega]
       . exact λc u e=>by rw[aM (aD e hp)];exact k28 _ _ (sm _ _ e)
       . rw[aB,dm];rfl
       . refine tL (bN pr λ_ _ z=>z.mono λy o fy eo=>⟨fy,by rw[aM fy.2];exact k28 _ _ eo⟩) ⟨hdx,p6,p7,?_,?_,?_,?_,?_,?_⟩
         . rw[aM (nep ((k3.trans k5).trans (k6.trans k7)) hhx).2];exact e8
         . rw[aM (nep (k3.trans k5) hp6).2];exact k8 _ _ (k7 _ _ e6)
         . rw[aM (nep ((k3.trans k5).trans k6) hp7).2];exact k8 _ _ e7
         . exact nep ((k3.trans k5).trans (k6.trans k7)) hhx
         . exact nep (k3.trans k5) hp6
         . exact nep ((k3.trans k5).trans k6) hp7
       . rw[ehd,show (b.drop pl).drop (4+n+v)=b.drop (pl+4+n+v) by rw[gw];congr 1<;>omega]
         cases hd (b.drop (pl+4+n+v)) with
         |none=>rfl
         |some l=>simp only[oK,iC,jU,mD]
       . rw[aF];show _+1<=_;omega
   . rw[show decide ((pl:Int)<((b.length:Nat):Int))=false from aq (by omega)];have:b.drop pl=[]:=eU (by omega);rw[this,ab2]at ehd;refine cY ⟨_,rfl,q hs p as H2 ?_ hp ep (bN pr λ_ _ z=>z.mono λy o fy eo=>⟨fy.1,eo⟩) sm⟩;rw[ehd];simp only[oK,eQ]
def acY(A:Ad)(L dL:Addr)(X:List Addr)(H:Hp)(t:Ra)(v:Int)(Q:VK):Prop:=∀r' X' H',pW A H' L dL r' X' t->gf X H X' H'->Q (.int v) H'
inductive agq(A:Ad)(vs:List V)(H:Hp)(Q:VK)(_:XK):Prop
 |mk (L dL:Addr) (r:gM) (X:List Addr) (s:Ra) (n:Nat) (c:Int) (_:vs=[.ref L,.int c]) (_:pW A H L dL r X s) (_:Sz n s) (_:n<=30000) (_:acY A L dL X H (Rc28.does s (.away c)).1 (Rc28.does s (.away c)).2.value Q)
def ack(F:j5 K "go_away" "go_away" O6 f fd)(T:Txt K mg A)(vL:jQ P w K mg base "fail_line" dW 3 ["line","code"] (adJ A)):dR P w K mg base dW 4 f fd ["line","code"] (agq A):=by
 refine F.mZ (N:=["line","code"]) (λ_ _ _ s H _ _ _ hr h _=>?_)
 . obtain⟨L,dL,r,X,s,n,c,rfl,h,hz,hn,q⟩:=h;refine⟨_,(ao (cV (iB (aaO 0 rfl)) (aG (aZ (cR T.sH))) bC)
    (ao (cV (bF yS (pv 1) bx (bO _)) (aG (aZ (cR T.xO))) bC)
    (ao (dz (aU vL hr.lw (aa (pv 0) (aa (pv 1) aK))))
    (aG (aZ (cR T.abN)))))),?_⟩
   have ed:Rc28.does s (.away c)=if s.dead=true then (s,{value:=-4}) else if c<0 then (s,Rc28.refused) else (Rc28.die s c.toNat,{value:=0}):=rfl
   rw[ed]at q;have pd:=h.pd;refine⟨rfl,pd.ob,T.cN,T.pN,tG,_,rfl,?_⟩;rw[pd.failed]
   cases hd:s.dead with
   |true=>
    rw[hd,if_pos rfl]at q;exact cQ (q r X H h gf.refl)
   |false=>
    rw[hd,if_neg aW]at q;refine cY ⟨_,rfl,_,_,rfl,rfl,_,rfl,?_⟩;by_cases hc:c<0
    . rw[az hc];rw[if_pos hc]at q;exact cQ (q r X H h gf.refl)
    . rw[aq hc];rw[if_neg hc]at q;obtain⟨m,rfl⟩:∃m:Nat,c=(m:Int):=⟨c.toNat,by omega⟩;rw[cI]at q;refine cY ⟨_,rfl,_,rfl,L,dL,r,s,m,rfl,pd,by rw[bw];have:=hz.out;omega,λH' h' o'=>?_⟩
      refine q {r with failed:=true} (ft L r) H' (.inr ⟨rfl,h',rfl⟩) ⟨o'.mono λy hy=>?_,λy hy=>.inl ?_⟩
      . rcases h with⟨x,h,rfl⟩|⟨hd',h,rfl⟩
        . rcases aJ.mp hy with rfl|hy
          . exact cC (j:=0) rfl
          . rw[ak.mp hy];exact cC (j:=5) rfl
        . rw[hd]at hd';cases hd'
      . rcases h with⟨x,h,rfl⟩|⟨hd',h,rfl⟩
        . exact qK y hy
        . rw[hd]at hd';cases hd'
def UT{R:Addr->Rt->Prop}{as:List Addr}(p:Paired R as l){z:Int}(h:∀x∈l,(x.id:Int)≠z):Az (qD as l) (.inl z)=none:=by
 induction p with
 |nil=>rfl
 |@cons a x as l r t ih=>
  rw[o8,Ds (λe=>h x (.head _) (by injection e))];exact ih λy hy=>h y (.tail _ hy)
def ab4(z:Sz n s){i:Int}(hi:i<1):∀x∈s.streams,(x.id:Int)≠i:=λx hx e=>by
 have:=(z.Hg x hx).1;omega
def aeb{id:Nat}{f:Rt->Rt}(h:∀y,f y=y):Rc28.change s id f=s:=by
 unfold Rc28.change;have:(s.streams.map λx=>if x.id=id then f x else x)=s.streams:=by
  conv=>rhs;rw[<-List.map_id s.streams]
  refine nZ λx _=>?_;split
  . exact h x
  . rfl
 rw[this]
inductive abg(A:Ad)(vs:List V)(H:Hp)(Q:VK)(_:XK):Prop
 |mk (L dL:Addr) (r:gM) (X:List Addr) (s:Ra) (n:Nat) (i c:Int) (_:vs=[.ref L,.int i,.int c]) (_:pW A H L dL r X s) (_:Sz n s) (_:n<=30000) (_:acY A L dL X H (Rc28.does s (.reset i c)).1 (Rc28.does s (.reset i c)).2.value Q)
def Q0(F:j5 K "reset_stream" "reset_stream" Ag f fd)(T:Txt K mg A)(dC:jQ P w K mg base "fail_stream" dW 3 ["line","number","code"] (yN A)):dR P w K mg base dW 4 f fd ["line","number","code"] (abg A):=by
 refine F.mZ (N:=["line","number","code"]) (λ_ _ _ s H _ _ _ hr h _=>?_)
 . obtain⟨L,dL,r,X,s,n,i,c,rfl,h,hz,hn,q⟩:=h;have hu:=zO hr;refine⟨_,(ao (cV (iB (aaO 0 rfl)) (aG (aZ (cR T.sH))) bC)
    (ao (cV (uB (bF yS (pv 2) bx (bO _)) (rZ (O3 (WT hu (pv 1) (aaO 0 rfl))))).pt (aG (aZ (cR T.xO))) bC)
    (ao (dz (aU dC hr.lw (aa (pv 0) (aa (pv 1) (aa (pv 2) aK)))))
    (aG (aZ (cR T.abN)))))),?_⟩
   have ed:Rc28.does s (.reset i c)=if s.dead=true then (s,{value:=-4}) else if i<1\/c<0 then (s,Rc28.refused) else if (Rc28.find s i.toNat).isNone=true then (s,Rc28.refused) else (Rc28.fail s i.toNat c.toNat,{value:=0}):=rfl
   rw[ed]at q;have pd:=h.pd;refine⟨rfl,pd.ob,T.cN,T.pN,tG,_,rfl,?_⟩;rw[pd.failed];rcases h with⟨x,h,rfl⟩|⟨hd,h,rfl⟩
   . rw[h.dead]at q ⊢;rw[if_neg aW]at q;have no:(Rc28.does s (.reset i c)).1=s->(Rc28.does s (.reset i c)).2.value=-1->True:=λ_ _=>trivial;refine cY ⟨_,rfl,_,_,rfl,rfl,_,rfl,?_⟩;by_cases hc:c<0
     . rw[az hc];rw[if_pos (.inr hc)]at q;exact cQ (cQ (q r _ H (.inl ⟨x,h,rfl⟩) gf.refl))
     . rw[aq hc];refine cY ⟨_,rfl,rfl,h.ob,T.cN,T.eV,eN,r.streams,_,rfl,uY.k (k:=.inl i) h.tZ.ob,_,rfl,?_⟩;by_cases hi:i<1
       . rw[if_pos (.inl hi)]at q;rw[UT h.tZ.st (ab4 hz hi)];exact cQ (q r _ H (.inl ⟨x,h,rfl⟩) gf.refl)
       . rw[if_neg (by omega)]at q;obtain⟨m,rfl⟩:∃m:Nat,i=(m:Int):=⟨i.toNat,by omega⟩;obtain⟨d,rfl⟩:∃d:Nat,c=(d:Int):=⟨c.toNat,by omega⟩;rw[cI,cI]at q;rcases RC h.tZ.st m with⟨v1,v2⟩|⟨y,a,v1,v2,_⟩
         . rw[show Rc28.find s m=none from v1]at q;rw[v2];exact cQ (q r _ H (.inl ⟨x,h,rfl⟩) gf.refl)
         . rw[show Rc28.find s m=some y from v1]at q;rw[v2];refine cY ⟨_,rfl,_,rfl,_,rfl,L,dL,r,x,s,m,d,rfl,h,by rw[bw];have:=hz.out;omega,λx' H' h' hX o'=>?_⟩
           exact q r _ H' (.inl ⟨x',h',rfl⟩) (gf.of o' hX)
   . rw[hd]at q ⊢;rw[if_pos rfl]at q;exact cQ (q r _ H (.inr ⟨hd,h,rfl⟩) gf.refl)
def aaE(s:Ra)(id:Nat)(h:Rc28.find s id=some y):Rc28.find (Rc28.change s id λz=>{z with begun:=true}) id=some {y with begun:=true}:=find_change h λ_=>rfl
where
 find_change {s:Ra} {id:Nat} {y:Rt} {g:Rt->Rt} (h:Rc28.find s id=some y) (hg:∀z,(g z).id=z.id):Rc28.find (Rc28.change s id g) id=some (g y):=by
  unfold Rc28.find Rc28.change at *;dsimp only;generalize s.streams=l at h;induction l with
  |nil=>cases h
  |cons z l ih=>
   rw[bG,gG];rw[gG]at h;by_cases hz:z.id=id
   . rw[if_pos hz,show ((g z).id==id)=true by rw[hg,hz];simp]
     rw[show (z.id==id)=true by rw[hz];simp]at h
     cases h;rfl
   . rw[if_neg hz,show (z.id==id)=false by simp[hz]];rw[show (z.id==id)=false by simp[hz]]at h;exact ih h
inductive W4(A:Ad)(vs:List V)(H:Hp)(Q:VK)(_:XK):Prop
 |mk (L dL:Addr) (r:gM) (X:List Addr) (s:Ra) (n:Nat) (i:Int) (p:Addr) (b:Rb) (la:Int) (_:vs=[.ref L,.int i,.ref p,.bl (!decide (V.int la=V.int 0))]) (_:pW A H L dL r X s) (_:Sz n s) (_:n<=30000) (_:H p=some (.cM (bv b))) (_:p∉X) (_:b.length<=16384) (_:acY A L dL X H (Rc28.does s (.answer i b b.length la)).1 (Rc28.does s (.answer i b b.length la)).2.value Q)
def Oj(F:j5 K "answer_stream" "answer_stream" yC f fd)(T:Txt K mg A)(zE:jQ P w K mg base "read_headers" dW 3 ["row"] (adO A))(sX:jQ P w K mg base "are_answer_headers" dW 5 ["headers"] (W3 A))(jx:jQ P w K mg base "too_much_unsent" dW 1 ["line"] (Zx A))(J3:jQ P w K mg base "block_of" dW 5 ["line","headers"] (W5 A))(DN:jQ P w K mg base "send_block" dW 3 ["line","number","block","last"] (adQ A))(ug:jQ P w K mg base "end_stream" dW 4 ["line","number"] (Zt A)):
 dR P w K mg base dW 6 f fd ["line","number","row","last"] (W4 A):=by
 refine F.mZ (N:=["line","number","row","last","headers"]) (λ_ _ _ s H _ Q _ hr h nd0=>?_)
 . obtain⟨L,dL,r,X,s,n,i,p,b,la,rfl,h,hz,hn,hp,hpX,hb,q⟩:=h;have hu:=zO hr;refine⟨_,(ao (cV (iB (aaO 0 rfl)) (aG (aZ (cR T.sH))) bC)
    (ao (cV (uB (rY (Df yR yR bx (bV bc (by rfl) T.gO aO (aa (pv 2) aK)) (cR T.Jq))) (rZ (O3 (WT hu (pv 1) (aaO 0 rfl))))).pt (aG (aZ (cR T.xO))) bC)
    (ao (cB (i:=4) nd0 rfl (Or.inl rfl) (aU zE hr.lw (aa (pv 2) aK)))
    (ao (cV (uB (bF OJ (pv 4) yu (bO _)) (uB (rY (iB (aU sX hr.lw (aa (pv 4) aK)))) (rZ (iB (aQ (MK hu (aaO 0 rfl) (pv 1) (λ_ _=>rfl)) rfl))))).pt (aG (aZ (cR T.xO))) bC)
    (ao (cV (iB (aU jx hr.lw (aa (pv 0) aK))) (aG (aZ (cR T.Bf))) bC)
    (ao (dz (aU DN hr.lw (aa (pv 0) (aa (pv 1) (aa (aU J3 hr.lw (aa (pv 0) (aa (pv 4) aK))) (aa (pv 3) aK))))))
    (ao (eX (MK hu (aaO 0 rfl) (pv 1) (λ_ _=>rfl)) qG rfl)
    (ao (cV (iB (pv 3)) (aG (dz (aU ug hr.lw (aa (pv 0) (aa (pv 1) aK))))) bC)
    (aG (aZ (cR T.abN))))))))))),?_⟩
   have pd:=h.pd;refine⟨rfl,pd.ob,T.cN,T.pN,tG,_,rfl,?_⟩;rw[pd.failed];rcases h with⟨x,h,rfl⟩|⟨hd',h,rfl⟩
   . rw[h.dead];have hdd:=h.dead;refine cY ?_;have ref:Rc28.does s (.answer i b b.length la)=(s,Rc28.refused)->Q (.int (-1)) H:=λe=>by
      rw[e]at q;exact q r _ H (.inl ⟨x,h,rfl⟩) gf.refl
     dsimp only[J0,Dq,acJ,tOr,ak9,Ql];refine vN (p1:=λi j=>decide (i<=j)) (p2:=λi j=>decide (i<=j)) (a:=1) (b:=((b.length:Nat):Int)) (c:=16384) (λQ q=>q) (λQ q=>⟨_,rfl,_,_,rfl,.inl (fH.of hp),by rw[cA];exact q⟩) (λQ q=>q) _ ⟨_,rfl,?_⟩
     by_cases h1:b.length<1
     . rw[show (decide ((1:Int)<=((b.length:Nat):Int))&&decide (((b.length:Nat):Int)<=16384))=false by rw[Bool.eq_false_iff];simp;omega]
       refine cQ (cQ (ref ?_));unfold Rc28.does;dsimp only;rw[if_neg (by rw[hdd];exact aW),if_pos (.inl (by omega))]
     . rw[show (decide ((1:Int)<=((b.length:Nat):Int))&&decide (((b.length:Nat):Int)<=16384))=true by simp;omega]
       refine cY ⟨_,rfl,rfl,h.ob,T.cN,T.eV,eN,r.streams,_,rfl,uY.k (k:=.inl i) h.tZ.ob,_,rfl,?_⟩;by_cases hi:i<1
       . rw[UT h.tZ.st (ab4 hz hi)];refine cQ (ref ?_);unfold Rc28.does;dsimp only;rw[if_neg (by rw[hdd];exact aW),if_pos (.inr (.inr hi))]
       . obtain⟨m,rfl⟩:∃m:Nat,i=(m:Int):=⟨i.toNat,by omega⟩;have ed:Rc28.does s (.answer (m:Int) b b.length la)=match Rc28.find s m,hd b with
          |some y,some l=>if y.begun=true\/goodAnswer l=false then (s,Rc28.refused) else if CALM<s.out.length then (s,{value:=-2}) else
           (if la≠0 then Rc28.ended { (Rc28.change s y.id λy=>{y with begun:=true}) with said:=true,out:=s.out++Rc28.blockOut 8 1 (if la≠0 then 1 else 0) y.id ((if s.said=true then [] else [32])++l.flatMap Rc28.packOne)} y.id else { (Rc28.change s y.id λy=>{y with begun:=true}) with said:=true,out:=s.out++Rc28.blockOut 8 1 (if la≠0 then 1 else 0) y.id ((if s.said=true then [] else [32])++l.flatMap Rc28.packOne)},{value:=0})
          |_,_=>(s,Rc28.refused):=by
          unfold Rc28.does hd;dsimp only;rw[if_neg (by rw[hdd];exact aW),if_neg (by omega),cI]
          generalize Rc28.find s m=fa;generalize Rc28.handed (b.length+1) b=ha
          cases fa<;>cases ha<;>rfl
         rcases Bu h.tZ.st m with⟨v1,v2⟩|⟨j,y,a,v1,v2,v3,v4,⟨da,rs,s1,s2,s3,s4⟩,v6⟩
         . rw[v2];refine cQ (ref ?_);rw[ed,show Rc28.find s m=none from v1]
         . rw[show Rc28.find s m=some y from v1]at ed;rw[v2];refine cY ⟨_,rfl,p,b,rfl,hp,by omega,λen H1 sm1=>?_,λhs l as H1 eh hl e1 pr sm1=>?_⟩
           . rw[en]at ed;have h1':=h.same sm1;refine⟨_,rfl,rfl,_,rfl,cQ (cQ ?_)⟩;rw[ed]at q;exact q r _ H1 (.inl ⟨x,h1',rfl⟩) (gf.same sm1 gf.refl)
           . rw[eh]at ed;dsimp only at ed;rw[ed]at q;have h1':=h.same sm1;have st1:gf (foot L r x) H (foot L r x) H1:=gf.same sm1 gf.refl;have hds:oR A (foot L r x) H1 l hs:=⟨as,e1,bN pr λ_ _ z=>z.at λy fy=>h.wL.out fy⟩;have hlX:l∉foot L r x:=h.wL.out hl;refine⟨_,rfl,rfl,_,rfl,cY ⟨_,rfl,foot L r x,l,hs,rfl,hds,λH2 sm2=>⟨_,rfl,?_⟩⟩⟩;have h2:=h1'.same sm2;have st2:=st1.trans (gf.same (X:=foot L r x) sm2 gf.refl)
             cases hg:goodAnswer hs with
             |false=>
              rw[if_pos (.inr hg)]at q;exact cQ (cQ (q r _ H2 (.inl ⟨x,h2,rfl⟩) st2))
             |true=>
              have ob2:=sm2 _ _ (sm1 _ _ s1);have dg:uY H2 r.streams (.int (m:Int)) (some (.ref a)):=by have:=uY.k (k:=.inl (m:Int)) h2.tZ.ob;rw[v2]at this;exact this
              refine cY ⟨rfl,h2.ob,T.cN,T.eV,eN,_,rfl,r.streams,.ref a,rfl,dg,_,_,_,_,_,rfl,ob2,T.nF,T.mq,tH,_,rfl,?_⟩;rw[s4]
              cases hbg:y.begun with
              |true=>
               rw[if_pos (.inl hbg)]at q;exact cQ (q r _ H2 (.inl ⟨x,h2,rfl⟩) st2)
              |false=>
               rw[if_neg (by rw[hbg,hg];simp)]at q
               refine cY ⟨_,rfl,L,dL,r,s.out,rfl,h2.ob,h2.out,_,rfl,?_⟩;by_cases hcm:CALM<s.out.length
               . rw[az hcm];rw[if_pos hcm]at q;exact cQ (q r _ H2 (.inl ⟨x,h2,rfl⟩) st2)
               . rw[aq hcm];rw[if_neg hcm]at q;have hsm:=Yn _ b hs (aH _) eh;have hpk:=CZ hs;have Jr:y.id=m:=v6;rw[Jr]at q;have hout:=hz.out;refine cY ⟨_,rfl,_,rfl,_,rfl,_,rfl,L,dL,r,x,s,foot L r x,l,hs,rfl,h2,hds.iV (cZ.iV sm2) hlX,by omega,λr3 pb H3 h3 st3 pbX epb=>?_⟩;obtain⟨k,hk⟩:∃k,k=(if s.said=true then [] else [32])++hs.flatMap Rc28.packOne:=⟨_,rfl⟩
                 rw[<-hk]at q epb;have hne:hs≠[]:=by rintro rfl;cases hg
                 have hk0:0<k.length:=by
                  obtain⟨h0,hr0,rfl⟩:∃h0 hr0,hs=h0::hr0:=by cases hs with|nil=>exact absurd rfl hne|cons a b=>exact⟨a,b,rfl⟩
                  have:0<(Rc28.packOne h0).length:=aa3 h0;rw[hk,pJ,aF,aF];omega
                 have hkl:k.length<=60000:=by
                  rw[hk,aF];have:(if s.said=true then [] else [32]:Rb).length<=1:=by split<;>decide
                  omega
                 refine⟨_,rfl,L,dL,r3,x,{s with said:=true},m,pb,k,!decide (V.int la=V.int 0),rfl,h3,epb,pbX,hk0,by omega,by rw[bw];show s.out.length+_<=_;omega,λH4 h4 st4=>?_⟩
                 have efl:(if (!decide (V.int la=V.int 0))=true then 1 else 0)=(if la≠0 then 1 else 0):=by
                  by_cases hla:la=0
                  . rw[hla];rfl
                  . rw[if_pos hla,show decide (V.int la=V.int 0)=false from aq (λz=>hla (by injection z))];rfl
                 rw[efl]at h4;have st34:=(st2.trans st3).trans st4;rcases Bu h4.tZ.st m with⟨w1,w2⟩|⟨j4,y4,a4,w1,w2,w3,w4,⟨d4,rs4,o1,o2,o3,o4⟩,w6⟩
                 . have w1':Rc28.find s m=none:=w1;rw[show Rc28.find s m=some y from v1]at w1';cases w1'
                 . have:Rc28.find s m=some y4:=w1;rw[show Rc28.find s m=some y from v1]at this
                   cases this;have dg4:uY H4 r3.streams (.int (m:Int)) (some (.ref a4)):=by have:=uY.k (k:=.inl (m:Int)) h4.tZ.ob;rw[w2]at this;exact this
                   refine⟨rfl,h4.ob,T.cN,T.eV,eN,_,rfl,r3.streams,.ref a4,rfl,dg4,a4,A.Stream,d4,_,rfl,o1,T.nF,T.mq,zz,?_⟩;rw[zY];obtain⟨h5,oX5⟩:=h4.IV (i:=j4) (a:=a4) (y:=y) (id:=m) (g:=λz=>{z with begun:=true}) (H':=L2.bM H4 a4 (.ins A.Stream d4 (gV {rs4 with jn:=true}))) (gm.bM (.head _)) w3 w4 Jr rfl ⟨d4,_,aB,o2,o3,rfl⟩
                   have st5:=st34.trans (gf.of oX5 λ_ hy=>hy);generalize L2.bM H4 a4 (.ins A.Stream d4 (gV {rs4 with jn:=true}))=H5 at h5 oX5 st5;refine⟨_,rfl,_,rfl,?_⟩;have bl:=vZ 8 1 (if la≠0 then 1 else 0) m k
                   by_cases hla:la=0
                   . rw[if_neg (λz=>z hla)]at q;rw[show decide (V.int la=V.int 0)=true from az (by rw[hla])];exact cY (q r3 _ H5 (.inl ⟨x,h5,rfl⟩) st5)
                   . rw[if_pos hla]at q;rw[show decide (V.int la=V.int 0)=false from aq (λz=>hla (by injection z))];refine cQ ⟨_,rfl,_,rfl,L,dL,r3,x,_,m,{y with begun:=true},rfl,h5,aaE _ m (show Rc28.find {s with said:=true,out:=_} m=some y from v1),?_,λx' H6 h6 st6=>?_⟩
                     . show (s.out++Rc28.blockOut 8 1 (if la≠0 then 1 else 0) m k).length+200<=_
                       rw[aF,bw];omega
                     . exact q r3 _ H6 (.inl ⟨x',h6,rfl⟩) (st5.trans st6)
   . rw[hd'];have e:Rc28.does s (.answer i b b.length la)=(s,{value:=-4}):=by
      unfold Rc28.does;dsimp only;rw[if_pos hd']
     rw[e]at q;exact cQ (q r _ H (.inr ⟨hd',h,rfl⟩) gf.refl)
inductive adR(A:Ad)(vs:List V)(H:Hp)(Q:VK)(_:XK):Prop
 |mk (L dL:Addr) (r:gM) (X:List Addr) (s:Ra) (n:Nat) (i:Int) (p:Addr) (b:Rb) (la:Int) (_:vs=[.ref L,.int i,.ref p,.bl (!decide (V.int la=V.int 0))]) (_:pW A H L dL r X s) (_:Sz n s) (_:n<=30000) (_:H p=some (.cM (bv b))) (_:p∉X) (_:b.length<=30000) (_:acY A L dL X H (Rc28.does s (.send i b b.length la)).1 (Rc28.does s (.send i b b.length la)).2.value Q)
def Y0(F:j5 K "send_data" "send_data" Ig f fd)(T:Txt K mg A)(jx:jQ P w K mg base "too_much_unsent" dW 1 ["line"] (Zx A))(vg:jQ P w K mg base "send_data_frames" dW 3 ["line","number","row","ends"] (Zz A))(ug:jQ P w K mg base "end_stream" dW 4 ["line","number"] (Zt A)):dR P w K mg base dW 5 f fd ["line","number","row","last"] (adR A):=by
 refine F.mZ (N:=["line","number","row","last","stream","count","ends"]) (λ_ _ _ s H _ Q _ hr h nd0=>?_)
 . obtain⟨L,dL,r,X,s,n,i,p,b,la,rfl,h,hz,hn,hp,hpX,hb,q⟩:=h;have hu:=zO hr;refine⟨_,(ao (cV (iB (aaO 0 rfl)) (aG (aZ (cR T.sH))) bC)
    (ao (cB (i:=4) nd0 rfl (Or.inl rfl) (aa6 hu (aaO 0 rfl) (pv 1) ⟨rfl,rfl,rfl,rfl⟩))
    (ao (cV (uB (bF qF (bV bc (by rfl) T.gO aO (aa (pv 2) aK)) (cR T.Ma) (bO _)) (uB (bF OJ (pv 4) yu (bO _)) (rZ (rY (iB (aaO 4 rfl)))))).pt (aG (aZ (cR T.xO))) bC)
    (ao (cV (iB (aU jx hr.lw (aa (pv 0) aK))) (aG (aZ (cR T.Bf))) bC)
    (ao (cB (i:=5) nd0 rfl (Or.inl rfl) (bV (ad6 rfl) (by rfl) T.akj PyProof.Rows.Boot.«max» (aa bx (aa (bV (ad8 rfl) (by rfl) T.ain PyProof.Rows.Boot.«min» (aa (bV bc (by rfl) T.gO aO (aa (pv 2) aK)) (aa (aaO 4 rfl) (aa (aaO 0 rfl) aK)))) aK))))
    (ao (aa8 4 (pv 5) Yp)
    (ao (aa8 0 (pv 5) Yp)
    (ao (cB (i:=6) nd0 rfl (Or.inl rfl) (Eo (pv 3) (yw (mL pI (pv 5) (bV bc (by rfl) T.gO aO (aa (pv 2) aK)) (bO _)))))
    (ao (dz (aU vg hr.lw (aa (pv 0) (aa (pv 1) (aa (jz lG (pv 2) uW (iu (pv 5))) (aa (pv 6) aK))))))
    (ao (cV (iB (pv 6)) (aG (dz (aU ug hr.lw (aa (pv 0) (aa (pv 1) aK))))) bC)
    (aG (aZ (pv 5))))))))))))),?_⟩
   have pd:=h.pd;refine⟨rfl,pd.ob,T.cN,T.pN,tG,_,rfl,?_⟩;rw[pd.failed];rcases h with⟨x,h,rfl⟩|⟨hd',h,rfl⟩
   . rw[h.dead];have hdd:=h.dead;have ref:Rc28.does s (.send i b b.length la)=(s,Rc28.refused)->Q (.int (-1)) H:=λe=>by
      rw[e]at q;exact q r _ H (.inl ⟨x,h,rfl⟩) gf.refl
     refine cY ⟨rfl,h.ob,T.cN,T.eV,eN,r.streams,rfl,.inl ⟨_,.inl h.tZ.ob⟩,_,rfl,_,uY.k (k:=.inl i) h.tZ.ob,?_⟩;have big:decide ((((bv b).length:Nat):Int)>65536)=false:=by rw[cA];exact aq (by omega)
     by_cases hi:i<1
     . rw[UT h.tZ.st (ab4 hz hi)];refine⟨_,rfl,_,_,rfl,.inl (fH.of hp),_,_,rfl,rfl,_,rfl,?_⟩;rw[big];refine cY ⟨_,rfl,rfl,_,rfl,cQ (cQ (ref ?_))⟩;unfold Rc28.does;dsimp only;rw[if_neg (by rw[hdd];exact aW),if_pos (.inr (.inr hi))]
     . obtain⟨m,rfl⟩:∃m:Nat,i=(m:Int):=⟨i.toNat,by omega⟩;have ed:Rc28.does s (.send (m:Int) b b.length la)=match Rc28.find s m with
        |none=>(s,Rc28.refused)
        |some y=>if y.begun=false then (s,Rc28.refused) else if CALM<s.out.length then (s,{value:=-2}) else
         if min b.length (min s.window y.window).toNat=0/\decide (la≠0/\min b.length (min s.window y.window).toNat=b.length)=false then (s,{value:=0}) else
         (if decide (la≠0/\min b.length (min s.window y.window).toNat=b.length)=true then Rc28.ended { (Rc28.change s y.id λz=>{z with window:=z.window-(min b.length (min s.window y.window).toNat:Nat)}) with window:=s.window-(min b.length (min s.window y.window).toNat:Nat),out:=s.out++Rc28.dataOut 8 (if decide (la≠0/\min b.length (min s.window y.window).toNat=b.length)=true then 1 else 0) y.id (b.take (min b.length (min s.window y.window).toNat))} y.id
           else { (Rc28.change s y.id λz=>{z with window:=z.window-(min b.length (min s.window y.window).toNat:Nat)}) with window:=s.window-(min b.length (min s.window y.window).toNat:Nat),out:=s.out++Rc28.dataOut 8 (if decide (la≠0/\min b.length (min s.window y.window).toNat=b.length)=true then 1 else 0) y.id (b.take (min b.length (min s.window y.window).toNat))},
          {value:=((min b.length (min s.window y.window).toNat:Nat):Int)}):=by
        unfold Rc28.does;dsimp only;rw[if_neg (by rw[hdd];exact aW),if_neg (by omega),cI]
        cases Rc28.find s m<;>rfl
       rcases Bu h.tZ.st m with⟨v1,v2⟩|⟨j,y,a,v1,v2,v3,v4,⟨da,rs,s1,s2,s3,s4⟩,v6⟩
       . rw[v2];refine⟨_,rfl,_,_,rfl,.inl (fH.of hp),_,_,rfl,rfl,_,rfl,?_⟩;rw[big];refine cY ⟨_,rfl,rfl,_,rfl,cQ (cQ (ref ?_))⟩;rw[ed,show Rc28.find s m=none from v1]
       . rw[show Rc28.find s m=some y from v1]at ed;dsimp only at ed;rw[v2];refine⟨_,rfl,_,_,rfl,.inl (fH.of hp),_,_,rfl,rfl,_,rfl,?_⟩;rw[big];refine cY ⟨_,rfl,rfl,_,rfl,cY ⟨rfl,s1,T.nF,T.mq,tH,_,rfl,?_⟩⟩;rw[s4]
         cases hbg:y.begun with
         |false=>
          rw[if_pos hbg]at ed;exact cQ (ref ed)
         |true=>
          rw[if_neg (by rw[hbg];simp)]at ed
          refine cY ⟨_,rfl,L,dL,r,s.out,rfl,h.ob,h.out,_,rfl,?_⟩;by_cases hcm:CALM<s.out.length
          . rw[az hcm];rw[if_pos hcm]at ed;rw[ed]at q;exact cQ (q r _ H (.inl ⟨x,h,rfl⟩) gf.refl)
          . rw[aq hcm];rw[if_neg hcm]at ed;have Jr:y.id=m:=v6;rw[Jr]at ed;have hout:=hz.out;refine cY ⟨_,rfl,_,_,rfl,.inl (fH.of hp),rfl,s1,T.nF,T.o9,qp,rfl,h.ob,T.cN,T.xK,zT,_,_,_,rfl,_,_,rfl,?_⟩;have ek:(if min (((bv b).length:Nat):Int) (min rs.window r.window)>0 then min (((bv b).length:Nat):Int) (min rs.window r.window) else 0)=((min b.length (min s.window y.window).toNat:Nat):Int):=by
             rw[cA,s2,h.window];split<;>omega
            rw[ek];have hkb:min b.length (min s.window y.window).toNat<=b.length:=Nat.min_le_left _ _;generalize min b.length (min s.window y.window).toNat=k at ed hkb;refine⟨rfl,s1,T.nF,T.o9,qp,_,rfl,_,_,rfl,rfl,_,_,s1,zz,?_⟩;rw[wY];obtain⟨h1,oX1⟩:=h.IV (i:=j) (a:=a) (y:=y) (id:=m) (g:=λz=>{z with window:=z.window-(k:Int)}) (H':=L2.bM H a (.ins A.Stream da (gV {rs with window:=rs.window-(k:Int)}))) (gm.bM (.head _)) v3 v4 Jr rfl ⟨da,_,aB,by show rs.window-_=y.window-_;rw[s2],s3,s4⟩
            have st1:gf (foot L r x) H (foot L r x) _:=gf.of oX1 λ_ hy=>hy;obtain⟨hp1,_⟩:=st1.out hp hpX;generalize L2.bM H a (.ins A.Stream da (gV {rs with window:=rs.window-(k:Int)}))=H1 at h1 oX1 st1 hp1;refine⟨rfl,h1.ob,T.cN,T.xK,zT,_,rfl,_,_,rfl,rfl,_,_,h1.ob,qg,?_⟩;rw[Hv];have o2:gm [L] H1 (L2.bM H1 L (.ins A.dF dL (bI {r with window:=r.window-(k:Int)}))):=gm.bM (.head _);have h2:=h1.ale o2 aB;have st2:gf (foot L r x) H (foot L {r with window:=r.window-(k:Int)} x) _:=st1.trans (gf.of (o2.mono λy hy=>by rw[ak.mp hy];exact cC (j:=0) rfl) λ_ hy=>hy)
            obtain⟨hp2,hp2X⟩:=st2.out hp hpX;generalize L2.bM H1 L (.ins A.dF dL (bI {r with window:=r.window-(k:Int)}))=H2 at o2 h2 st2 hp2;have e2w:({ (Rc28.change s m λz=>{z with window:=z.window-(k:Int)}) with window:=r.window-(k:Int)}:Ra)={ (Rc28.change s m λz=>{z with window:=z.window-(k:Int)}) with window:=s.window-(k:Int)}:=by rw[h.window]
            rw[e2w]at h2;have eov:((!decide (V.int la=V.int 0))&&decide (k=b.length))=decide (la≠0/\k=b.length):=by
             rw[bR];simp only[bQ,mX,gr,bK,V.int.injEq,ne_eq]
            have fin:∀ov:Bool,ov=decide (la≠0/\k=b.length)->(Dq (yX (uc (Zz A) [] E0 (fG (iw 0) (fG (iw 1) (fG (tSl (agi K) (iw 2) RB (Xb (iw 5))) (fG (iw 6) oO)))))) (Dq (acJ (tB (iw 6)) (yX (uc (Zt A) [] E0 (fG (iw 0) (fG (iw 1) oO)))) J0) (Dn (iw 5)))) {nx:=λ_ H'=>Q .non H',rt:=Q}
             [some (.ref L),some (.int (m:Int)),some (.ref p),some (.bl (!decide (V.int la=V.int 0))),some (.ref a),some (.int (k:Int)),some (.bl ov)] H2:=by
             intro ov eo;rw[<-eo]at ed;refine⟨_,rfl,_,rfl,_,rfl,_,rfl,_,rfl,_,_,rfl,fH.of hp2,λp3 hp3=>?_⟩;rw[NZ (by rw[cA];exact hkb),<-pY]
             have sm3:cZ H2 (L2.bM H2 p3 (.cM (bv (b.take k)))):=d7 hp3;have e3:L2.bM H2 p3 (.cM (bv (b.take k))) p3=some (.cM (bv (b.take k))):=aB;generalize L2.bM H2 p3 (.cM (bv (b.take k)))=H3 at sm3 e3;have htk:(b.take k).length=k:=by rw[aY];omega
             refine⟨_,rfl,L,dL,{r with window:=r.window-(k:Int)},x,_,m,p3,b.take k,ov,rfl,h2.same sm3,e3,h2.wL.out hp3,by omega,by rw[bw];show s.out.length+_<=_;omega,λH4 h4 st4=>?_⟩
             have st34:=(st2.trans (gf.same sm3 gf.refl)).trans st4;refine⟨_,rfl,_,rfl,?_⟩;have fc:Rc28.find (Rc28.change s m λz=>{z with window:=z.window-(k:Int)}) m=some {y with window:=y.window-(k:Int)}:=aaE.find_change (show Rc28.find s m=some y from v1) λ_=>rfl;have dl:=Bj 8 (if ov=true then 1 else 0) m (b.take k)
             by_cases hk0:k=0/\ov=false
             . obtain⟨k0,ov0⟩:=hk0;rw[if_pos ⟨k0,ov0⟩]at ed;rw[ed]at q;subst ov0;refine cY ⟨_,rfl,?_⟩;rw[k0];refine q _ _ H4 (.inl ⟨x,?_,rfl⟩) st34;have e0:Yg false m (b.take k)=[]:=by unfold Yg;rw[if_pos ⟨by omega,rfl⟩]
               rw[e0,eQ,k0]at h4;have e1:Rc28.change s m (λz=>{z with window:=z.window-((0:Nat):Int)})=s:=aeb λz=>by cases z;simp
               rw[e1]at h4;have e2:s.window-((0:Nat):Int)=s.window:=by simp
               rw[e2]at h4;rw[k0];exact h4
             . rw[if_neg hk0]at ed;rw[ed]at q;have e0:Yg ov m (b.take k)=Rc28.dataOut 8 (if ov=true then 1 else 0) m (b.take k):=by unfold Yg;rw[if_neg (λz=>hk0 ⟨by omega,z.2⟩)]
               rw[e0]at h4
               cases ov with
               |false=>exact cY ⟨_,rfl,q _ _ H4 (.inl ⟨x,h4,rfl⟩) st34⟩
               |true=>
                refine cQ ⟨_,rfl,_,rfl,L,dL,_,x,_,m,{y with window:=y.window-(k:Int)},rfl,h4,fc,?_,λx' H5 h5 st5=>⟨_,rfl,q _ _ H5 (.inl ⟨x',h5,rfl⟩) (st34.trans st5)⟩⟩;show (s.out++_).length+200<=_
                rw[aF,bw];omega
            refine⟨_,rfl,_,rfl,?_⟩
            cases hla:(!decide (V.int la=V.int 0)) with
            |false=>
             refine cY ?_;have:=fin false (by rw[<-eov,hla];rfl)
             rw[hla]at this;exact this
            |true=>
             refine cQ ⟨_,rfl,_,rfl,_,_,rfl,.inl (fH.of hp2),rfl,?_⟩;rw[cA,Jt];have:=fin (decide (k=b.length)) (by rw[<-eov,hla,fK]);rw[hla]at this;exact this
   . rw[hd'];have e:Rc28.does s (.send i b b.length la)=(s,{value:=-4}):=by
      unfold Rc28.does;dsimp only;rw[if_pos hd']
     rw[e]at q;exact cQ (q r _ H (.inr ⟨hd',h,rfl⟩) gf.refl)
def Kpt(K:Fg)(H:Hp)(cl:Addr)(xs:List V)(Z:List Addr):Prop:=(∃u,H cl=some u/\cl∉Z/\∀H':Hp,H' cl=some u->fH K H' cl xs)\/∀H':Hp,fH K H' cl xs
section
variable{cl:Addr}{Z Z':List Addr}
def Kpt.sq(h:Kpt K H cl xs Z):fH K H cl xs:=by
 rcases h with⟨u,e,_,f⟩|f
 . exact f H e
 . exact f H
def Kpt.Rz(h:Kpt K H cl xs Z)(s:gf Z H Z' H'):Kpt K H' cl xs Z':=by
 rcases h with⟨u,e,n,f⟩|f
 . obtain⟨e',n'⟩:=s.out e n;exact .inl ⟨u,e',n',f⟩
 . exact .inr f
def Kpt.same(h:Kpt K H cl xs Z)(s:cZ H H'):Kpt K H' cl xs Z:=h.Rz (gf.same s gf.refl)
def akH(h:fH K H cl xs):Kpt K H cl xs []:=by
 rcases h with (h|⟨o,h⟩)|h
 . exact .inl ⟨_,h,(λm=>nomatch m),λH' e=>.inl (.inl e)⟩
 . exact .inl ⟨_,h,(λm=>nomatch m),λH' e=>.inl (.inr ⟨o,e⟩)⟩
 . exact .inr λH'=>.inr h
end
structure Jg(K:Fg)(A:Ad)(H:Hp)(D dD cl:Addr)(ns:List Int)(pl:Nat)(L dL:Addr)(r:gM)(X:List Addr)(s:Ra):Prop where
 ob:H D=some (.ins A.mR dD (iU ⟨cl,(pl:Nat),L⟩))
 kp:Kpt K H cl (iv ns) (D::X)
 nD:D∉X
 lv:pW A H L dL r X s
section
variable{D dD cl:Addr}{pl:Nat}{t:Ra}
def Jg.same(h:Jg K A H D dD cl ns pl L dL r X s)(sm:cZ H H'):Jg K A H' D dD cl ns pl L dL r X s:=⟨sm _ _ h.ob,h.kp.same sm,h.nD,h.lv.same sm⟩
def Jg.step(h:Jg K A H D dD cl ns pl L dL r X s)(h':pW A H' L dL r' X' t)(st:gf X H X' H'):Jg K A H' D dD cl ns pl L dL r' X' t/\gf (D::X) H (D::X') H':=by
 obtain⟨e,n⟩:=st.out h.ob h.nD;have s2:gf (D::X) H (D::X') H':=⟨λc o e hc=>st.1 c o e λm=>hc (.tail _ m),λy hy=>by
  rcases aJ.mp hy with rfl|hy
  . exact .inl (.head _)
  . rcases st.2 y hy with z|z
    . exact .inl (.tail _ z)
    . exact .inr z⟩
 exact⟨⟨e,h.kp.Rz s2,n,h'⟩,s2⟩
end
def Dk(o:HO):Prop:=∃C dx fs,o=.ins C dx fs/\(fs.map (·.1)=(["calls","place"]:List Str)\/fs.map (·.1)=(["calls","place","line"]:List Str))
def ndk{fs:List (Str×V)}{l:List Str}(e:fs.map (·.1)=l)(h:(decide (l=(["calls","place"]:List Str))||decide (l=(["calls","place","line"]:List Str)))=false):¬Dk (.ins C dx fs):=by
 rintro⟨_,_,_,z,h2⟩
 cases z;rw[e]at h2;rw[qy,gr,gr]at h;exact h2.elim h.1 h.2
def Wv{f:GR}:Dk (.ins C dx (iU f)):=⟨_,_,_,rfl,.inr ahh⟩
def Kd(H H':Hp):Prop:=(∀a o,H a=some o->¬Dk o->H' a=some o)/\∀a o,H a=some o->∃o',H' a=some o'
def ab7{D:Addr}{o':HO}(h:H D=some o)(hd:Dk o):Kd H (L2.bM H D o'):=by
 refine⟨λa u e n=>?_,λa u e=>?_⟩
 . by_cases ha:a=D
   . subst ha;rw[h]at e;cases e;exact absurd hd n
   . rw[aM ha];exact e
 . by_cases ha:a=D
   . subst ha;exact⟨_,aB⟩
   . exact⟨u,by rw[aM ha];exact e⟩
def Kd.cM(k:Kd H H'){a:Addr}{xs:List V}(h:H a=some (.cM xs)):H' a=some (.cM xs):=k.1 _ _ h λz=>by obtain⟨_,_,_,e,_⟩:=z;cases e
def sU.kd(x:sU A X H a h)(k:Kd H H'):sU A X H' a h:=by
 obtain⟨dx,n,v,h1,h2,h3,n1,n2,n3⟩:=x;exact⟨dx,n,v,k.1 _ _ h1 (ndk aft (by decide +kernel)),k.cM h2,k.cM h3,n1,n2,n3⟩
def oR.kd{l:Addr}{hs:List Rh}(x:oR A X H l hs)(k:Kd H H'):oR A X H' l hs:=by
 obtain⟨as,h1,h2⟩:=x;exact⟨as,k.cM h1,bN h2 λ_ _ z=>z.kd k⟩
def qI.kd{a:Addr}{e:Option Rv}(x:qI A X H a e)(k:Kd H H'):qI A X H' a e:=by
 obtain⟨dx,r,h1,h2,h3,h4,n1,n2,n3⟩:=x;exact⟨dx,r,k.1 _ _ h1 (ndk afw (by decide +kernel)),h2,h3.kd k,k.cM h4,n1,n2,n3⟩
def FN.kd{a:Addr}{e:List Rv}(x:FN A X H a e)(k:Kd H H'):FN A X H' a e:=by
 obtain⟨es,h1,h2⟩:=x;exact⟨es,k.cM h1,bN h2 λ_ _ z=>z.kd k⟩
def gb.kd{L dL:Addr}{r:gM}{x:Lx}{s:Ra}(h:gb A H L dL r x s)(k:Kd H H'):gb A H' L dL r x s:=by
 refine⟨k.1 _ _ h.ob (ndk ade (by decide +kernel)),h.start,k.cM h.part,h.settled,h.failed,h.dead,h.highest,h.window,h.first,h.said,k.cM h.out,?_,⟨k.1 _ _ h.tZ.ob (λz=>by obtain⟨_,_,_,e,_⟩:=z;cases e),bN h.tZ.st λa y z=>?_,h.tZ.Hg⟩,?_,h.Dr,h.evs.kd k,h.wt,h.now.kd k,h.nd,λy hy=>?_⟩
 . have hb:=h.Gj
   cases e:s.block with
   |none=>rw[e]at hb;exact hb
   |some b=>
    rw[e]at hb;obtain⟨B,dB,rb,h1,h2,h3,h4,h5,h6,h7⟩:=hb;exact⟨B,dB,rb,h1,h2,k.1 _ _ h3 (ndk afv (by decide +kernel)),h4,h5,h6,k.cM h7⟩
 . obtain⟨dx,rs,h1,h2⟩:=z;exact⟨dx,rs,k.1 _ _ h1 (ndk aei (by decide +kernel)),h2⟩
 . obtain⟨as,h1,h2⟩:=h.yd.nw;obtain⟨fs,h3,h4⟩:=h.yd.fi;exact⟨k.1 _ _ h.yd.ob (ndk adb (by decide +kernel)),⟨as,k.cM h1,bN h2 λ_ _ z=>z.kd k⟩,⟨fs,k.cM h3,bN h4 λ_ _ z=>z.kd k⟩,h.yd.fX,h.yd.tX,h.yd.nX⟩
 . obtain⟨o,e⟩:=h.wL y hy;exact k.2 y o e
def pW.kd{L dL:Addr}{r:gM}{s:Ra}(h:pW A H L dL r X s)(k:Kd H H'):pW A H' L dL r X s:=by
 rcases h with⟨x,h,e⟩|⟨hd,h,e⟩
 . exact .inl ⟨x,h.kd k,e⟩
 . exact .inr ⟨hd,⟨k.1 _ _ h.ob (ndk ade (by decide +kernel)),h.failed,h.highest,k.cM h.out,h.evs.kd k,h.wt,h.now.kd k,h.nd⟩,e⟩
def Jg.put{D dD cl:Addr}{pl pl':Nat}(h:Jg K A H D dD cl ns pl L dL r X s):
 Jg K A (L2.bM H D (.ins A.mR dD (iU ⟨cl,(pl':Nat),L⟩))) D dD cl ns pl' L dL r X s/\gf (D::X) H (D::X) (L2.bM H D (.ins A.mR dD (iU ⟨cl,(pl':Nat),L⟩))):=by
 have st:gf (D::X) H (D::X) (L2.bM H D (.ins A.mR dD (iU ⟨cl,(pl':Nat),L⟩))):=gf.of (gm.bM (.head _)) λ_ hy=>hy;exact⟨⟨aB,h.kp.Rz st,h.nD,h.lv.kd (ab7 h.ob Wv)⟩,st⟩
inductive JZ(K:Fg)(A:Ad)(vs:List V)(H:Hp)(Q:VK)(_:XK):Prop
 |mk (D dD cl:Addr) (ns:List Int) (pl:Nat) (L:Addr) (z:Int) (_:vs=[.ref D]) (_:H D=some (.ins A.mR dD (iU ⟨cl,(pl:Nat),L⟩))) (_:fH K H cl (iv ns)) (_:ns[pl]? = some z) (_:Q (.int z) (L2.bM H D (.ins A.mR dD (iU ⟨cl,((pl+1:Nat):Int),L⟩))))
def Jw(F:j5 K "read_number" "Desk.read_number" vz f fd)(T:Txt K mg A):dR P w K mg base dW 1 f fd ["self"] (JZ K A):=by
 refine F.mZ (N:=["self","number"]) (λ_ _ _ _ H _ Q _ _ h nd0=>?_)
 . obtain⟨D,dD,cl,ns,pl,L,z,rfl,hD,hq,hz,q⟩:=h;refine⟨_,(ao (cB (i:=1) nd0 rfl (Or.inl rfl) (vU pZ (aaO 0 rfl) (aaO 0 rfl) (λ_ _=>rfl)))
    (ao (aa8 0 bx Hh)
    (aG (aZ (pv 1))))),?_⟩
   refine⟨rfl,hD,T.ju,T.Eg,JR,rfl,hD,T.ju,T.qN,rO,_,_,_,_,rfl,rfl,hq,jN (j:=pl) rfl (v:=.int z) (by unfold iv;rw[bA,hz];rfl),?_⟩
   refine⟨rfl,hD,T.ju,T.qN,rO,_,_,rfl,rfl,_,_,hD,ZQ,?_⟩;rw[JV];refine⟨_,rfl,?_⟩;have e:(((pl:Nat):Int)+1)=((pl+1:Nat):Int):=by omega
   show Q (.int z) (L2.bM H D (.ins A.mR dD (iU ⟨cl,((pl:Nat):Int)+1,L⟩)))
   rw[e];exact q
inductive adN(K:Fg)(A:Ad)(vs:List V)(H:Hp)(Q:VK)(_:XK):Prop
 |mk (D dD cl:Addr) (ns:List Int) (pl:Nat) (L:Addr) (n:Nat) (_:vs=[.ref D]) (_:H D=some (.ins A.mR dD (iU ⟨cl,(pl:Nat),L⟩))) (_:Kpt K H cl (iv ns) [D]) (_:ns[pl]? = some (n:Int)) (_:pl+1+n<=ns.length) (_:∀p,H p=none->∀H',H'=L2.bM (L2.bM H p (.cM (iv ((ns.drop (pl+1)).take n)))) D (.ins A.mR dD (iU ⟨cl,((pl+1+n:Nat):Int),L⟩))->Q (.ref p) H')
def abq{x y:HO}(h:a≠b):L2.bM (L2.bM H a x) b y=L2.bM (L2.bM H b y) a x:=by
 funext c;by_cases ha:c=a
 . subst ha;rw[aM h,aB,aB]
 . by_cases hb:c=b
   . subst hb;rw[aB,aM ha,aB]
   . rw[aM hb,aM ha,aM ha,aM hb]
def Oi(F:j5 K "read_row" "Desk.read_row" yx f fd)(T:Txt K mg A)(bD:rC P w K mg base A.mR "read_number" dW 1 ["self"] (JZ K A)):dR P w K mg base dW 2 f fd ["self"] (adN K A):=by
 refine F.mZ (N:=["self","count","row"]) (λ_ _ _ _ H _ _ _ hr h nd0=>?_)
 . obtain⟨D,dD,cl,ns,pl,L,n,rfl,hD,hk,hz,hle,q⟩:=h;refine⟨_,(ao (cB (i:=1) nd0 rfl (Or.inl rfl) (gU T.ju (pv 0) bD hr.lw lU))
    (ao (cB (i:=2) nd0 rfl (Or.inl rfl) (jz lG (aaO 0 rfl) (iu (aaO 0 rfl)) (iu (iW oG (aaO 0 rfl) (pv 1)))))
    (ao (aa8 0 (bV bc (by rfl) T.gO aO (aa (pv 2) aK)) Hh)
    (aG (aZ (pv 2)))))),?_⟩
   refine⟨_,rfl,_,_,_,rfl,hD,fJ,D,dD,cl,ns,pl,L,(n:Int),rfl,hD,hk.sq,hz,?_⟩;have st1:gf [D] H [D] (L2.bM H D (.ins A.mR dD (iU ⟨cl,((pl+1:Nat):Int),L⟩))):=gf.of (gm.bM (.head _)) λ_ hy=>hy;have hk1:=hk.Rz st1;have e1:L2.bM H D (.ins A.mR dD (iU ⟨cl,((pl+1:Nat):Int),L⟩)) D=some (.ins A.mR dD (iU ⟨cl,((pl+1:Nat):Int),L⟩)):=aB;refine⟨rfl,e1,T.ju,T.Eg,JR,rfl,e1,T.ju,T.qN,rO,_,rfl,rfl,e1,T.ju,T.qN,rO,_,rfl,_,_,rfl,rfl,_,rfl,_,_,rfl,hk1.sq,λp hp=>?_⟩;have ec:sV (iv ns) (some ((pl+1:Nat):Int)) (some (((pl+1:Nat):Int)+((n:Nat):Int)))=iv ((ns.drop (pl+1)).take n):=by
    rw[CQ];unfold iv;rw[List.map_take,List.map_drop]
   show Dq _ _ _ _ (L2.bM _ p (.cM (sV (iv ns) (some ((pl+1:Nat):Int)) (some (((pl+1:Nat):Int)+((n:Nat):Int))))))
   rw[ec];have hpD:p≠D:=λz=>by rw[z,aB]at hp;cases hp
   have e2:L2.bM (L2.bM H D (.ins A.mR dD (iU ⟨cl,((pl+1:Nat):Int),L⟩))) p (.cM (iv ((ns.drop (pl+1)).take n))) D=some (.ins A.mR dD (iU ⟨cl,((pl+1:Nat):Int),L⟩)):=by rw[aM (Ne.symm hpD)];exact e1
   refine⟨rfl,e2,T.ju,T.qN,rO,_,rfl,_,_,rfl,.inl (fH.of aB),_,_,rfl,rfl,_,_,e2,ZQ,?_⟩;rw[JV];refine⟨_,rfl,q p (by rw[aM hpD]at hp;exact hp) _ ?_⟩
   have el:(((pl+1:Nat):Int)+(((iv ((ns.drop (pl+1)).take n)).length:Nat):Int))=((pl+1+n:Nat):Int):=by
    unfold iv;rw[aC,aY,bu];omega
   show L2.bM (L2.bM (L2.bM H D _) p _) D (.ins A.mR dD (iU ⟨cl,((pl+1:Nat):Int)+(((iv ((ns.drop (pl+1)).take n)).length:Nat):Int),L⟩))=_
   rw[el,abq (Ne.symm hpD),jc,abq hpD]
inductive Up(A:Ad)(vs:List V)(H:Hp)(Q:VK)(_:XK):Prop
 |mk (D dD cl:Addr) (_:vs=[.ref D,.ref cl]) (_:H D=some (.ins A.mR dD [])) (_:∀L dL r x H',H' D=some (.ins A.mR dD (iU ⟨cl,0,L⟩))->gb A H' L dL r x {}->(∀y∈foot L r x,H y=none)->wN D H H'->Q .non H')
def Yw(F:j5 K "__init__" "Desk.__init__" Hx f fd)(T:Txt K mg A)(vK:DQ P w K mg base "Line" A.dF 7 ["self"] (Lf A)):dR P w K mg base dW 9 f fd ["self","calls"] (Up A):=by
 refine F.mZ (N:=["self","calls"]) (λ_ _ _ _ H _ _ _ hr h _=>?_)
 . obtain⟨D,dD,cl,rfl,hD,q⟩:=h;refine⟨_,(ao (abu 0 (pv 1) rfl)
    (ao (abu 0 bx rfl)
    (aG (abu 0 (O1 vK hr.lw) rfl)))),?_⟩
   refine⟨_,rfl,rfl,hD,T.ju,T.Eg,(by show 0<1000;decide),?_⟩
   refine⟨rfl,aB,T.ju,T.qN,(by show 1<1000;decide),?_⟩
   rw[jc];intro L dL hL hdL hne;refine⟨L,dL,rfl,aB,λr x H1 h1 hX b1=>⟨rfl,?_⟩⟩;have nDL:D≠L:=aD aB hL;have nDd:D≠dL:=aD aB hdL;have eD:=b1 D _ (by rw[aM nDL,aM nDd];exact aB) nDL
   refine⟨rfl,eD,T.ju,T.mV,(by show 2<1000;decide),?_⟩
   refine q L dL r x _ (by rw[aB];rfl) (h1.kd (ab7 eD ⟨_,_,_,rfl,.inl rfl⟩)) (λy hy=>?_) λc u e hc=>?_
   . have z:y=L\/L2.bM H D (.ins A.mR dD (kY "place" (V.int 0) (kY "calls" (V.ref cl) []))) y=none:=by
      rcases hX y hy with z|z
      . exact .inl z
      . by_cases h2:y=L
        . exact .inl h2
        . by_cases h3:y=dL
          . rw[h3];exact .inr hdL
          . rw[aM h2,aM h3]at z;exact .inr z
     have z2:L2.bM H D (.ins A.mR dD (kY "place" (V.int 0) (kY "calls" (V.ref cl) []))) y=none:=by
      rcases z with z|z
      . rw[z];exact hL
      . exact z
     have hyD:y≠D:=λe=>by rw[e,aB]at z2;cases z2
     rw[aM hyD]at z2;exact z2
   . rw[aM hc];have cL:c≠L:=aD (by rw[aM hc];exact e) hL
     have cd:c≠dL:=aD (by rw[aM hc];exact e) hdL
     exact b1 c u (by rw[aM cL,aM cd,aM hc];exact e) cL
def qJ{pl:Nat}{x:Int}{r:List Int}(h:ns.drop pl=x::r):ns[pl]? = some x/\ns.drop (pl+1)=r/\pl<ns.length:=by
 have hl:pl<ns.length:=by
  rcases rK pl ns.length with z|z
  . exact z
  . rw[eU z]at h;cases h
 rw[iy hl]at h;injection h with h1 h2;exact⟨by rw[<-h1];exact bf hl,h2,hl⟩
def uQ{a b:Nat}(h:ns.drop a=ns.drop b)(ha:a<=ns.length)(hb:b<=ns.length):a=b:=by
 have:=j0 List.length h;rw[bu,bu]at this;omega
def S5{a:List Int}(h:a.all (λ(z:Int)=>Rc28Neutral.natural z 8)=true):iv a=bv (Rc28Neutral.bytesOf a):=by
 have:=abL h;conv=>lhs;rw[<-this]
 unfold iv bv;rw[gH];rfl
theorem CN(a:List Int):(Rc28Neutral.bytesOf a).length=a.length:=aC ..
def adn{a:List Int}(h:Rc28Neutral.long a a.length 1 m=true):a.length<=m:=by
 unfold Rc28Neutral.long at h;have:=bL h;split at this<;>omega
def Wg(K:Fg)(A:Ad)(D dD cl:Addr)(ns:List Int)(pl:Nat)(X:List Addr)(H:Hp)(t:Ra)(a:List Int)(Q:VK):Prop:=∀L' dL' r' X' p H',Jg K A H' D dD cl ns pl L' dL' r' X' t->gf (D::X) H (D::X') H'->H' p=some (.cM (iv a))->p∉D::X'->Ap (D::X) H p->Q (.ref p) H'
inductive Cu(K:Fg)(A:Ad)(k:Int)(vs:List V)(H:Hp)(Q:VK)(_:XK):Prop
 |mk (D dD cl:Addr) (ns:List Int) (pl:Nat) (L dL:Addr) (r:gM) (X:List Addr) (s:Ra) (n:Nat) (c:List (List Int)) (t:List Int) (x:Rc28.Call) (pl':Nat) (_:vs=[.ref D]) (_:Jg K A H D dD cl ns pl L dL r X s) (_:Sz n s) (_:n+cn x<=30000) (_:Cl (k::ns.drop pl) c t) (_:Rc28Neutral.asked1 (PyRc28.whole c)=true) (_:ajL c=some x) (_:ns.drop pl'=t) (_:pl'<=ns.length) (_:pl<=ns.length) (_:Wg K A D dD cl ns pl' X H (Rc28.does s x).1 (nu (Rc28.does s x).2) Q)
section
variable{D dD cl:Addr}{pl:Nat}{t:Ra}{a:List Int}
def Wg.line{X0:List Addr}{H0:Hp}(q:Wg K A D dD cl ns pl X0 H0 t a Q)(h:Jg K A H D dD cl ns pl L dL r X s)(st0:gf (D::X0) H0 (D::X) H)(h':pW A H' L dL r' X' t)(st:gf X H X' H')(hp:H' p=some (.cM (iv a)))(hpX:p∉X')(ap:Ap X H p):Q (.ref p) H':=by
 obtain⟨d,s2⟩:=h.step h' st;refine q L dL r' X' p H' d (st0.trans s2) hp (λm=>?_) λy o e n=>?_;rotate_left
 . obtain⟨e1,n1⟩:=st0.out e n;exact ap y o e1 λm=>n1 (.tail _ m)
 rcases aJ.mp m with z|z
 . rw[z,d.ob]at hp;cases hp
 . exact hpX z
def Wg.num{X0:List Addr}{H0:Hp}{v:Int}(q:Wg K A D dD cl ns pl X0 H0 t [v] Q)(h:Jg K A H D dD cl ns pl L dL r X s)(st0:gf (D::X0) H0 (D::X) H)(h':pW A H' L dL r' X' t)(st:gf X H X' H')(hp:H' p=none):Q (.ref p) (L2.bM H' p (.cM [.int v])):=by
 have sm:cZ H' (L2.bM H' p (.cM [.int v])):=d7 hp;exact q.line h st0 (h'.same sm) (st.trans (gf.same sm gf.refl)) aB (h'.wL.out hp) (Ap.of st.1 hp)
def Kpt.QK{Z Z':List Addr}(h:Kpt K H cl xs Z)(g:∀y∈Z',y∈Z):Kpt K H cl xs Z':=h.Rz (gf.of gm.refl g)
end
def Vz(F:j5 K "call_begin" "call_begin" Ey f fd)(T:Txt K mg A)(Dw:jQ P w K mg base "begin_line" dW 9 [] (abe A)):dR P w K mg base dW 10 f fd ["desk"] (Cu K A 0):=by
 refine F.mZ (N:=["desk"]) (λ_ _ _ s H _ Q _ hr h _=>?_)
 . obtain⟨D,dD,cl,ns,pl,L,dL,r,X,s,n,c,t,x,pl',rfl,h,hz,hn,hc,has,hx,ht,hl',hl,q⟩:=h;refine⟨_,(ao (abu 0 (Jb Dw hr.lw) rfl)
    (aG (aZ (jT (aa bx aK))))),?_⟩
   cases hc
   cases hx;obtain rfl:=uQ ht hl' hl;refine⟨rfl,λL' dL' r' x' H1 h1 hX sm1=>⟨rfl,sm1 _ _ h.ob,T.ju,T.mV,ZQ,?_⟩⟩;rw[Y8];refine⟨by show 1<=sizeLine;decide,λp hp=>?_⟩
   have hD1:=sm1 _ _ h.ob;have kd:Kd H1 (L2.bM H1 D (.ins A.mR dD (iU ⟨cl,(pl':Nat),L'⟩))):=ab7 hD1 Wv;have h2:gb A (L2.bM H1 D (.ins A.mR dD (iU ⟨cl,(pl':Nat),L'⟩))) L' dL' r' x' (Rc28.send {} 4 0 0 (Rc28.be 2 3++Rc28.be 4 32)):=h1.kd kd;have e2:L2.bM H1 D (.ins A.mR dD (iU ⟨cl,(pl':Nat),L'⟩)) D=some (.ins A.mR dD (iU ⟨cl,(pl':Nat),L'⟩)):=aB;have nD:D∉foot L' r' x':=λm=>by have:=hX D m;rw[h.ob]at this;cases this
   have st:gf (D::X) H (D::foot L' r' x') (L2.bM H1 D (.ins A.mR dD (iU ⟨cl,(pl':Nat),L'⟩))):=⟨λc u e hc=>by
    rw[aM λz=>hc (by rw[z];exact .head _)];exact sm1 _ _ e,λy hy=>by
    rcases aJ.mp hy with rfl|hy
    . exact .inl (.head _)
    . exact .inr (hX y hy)⟩
   have kp:=h.kp.Rz st;change L2.bM H1 D (.ins A.mR dD (iU ⟨cl,(pl':Nat),L'⟩)) p=none at hp;show Q (.ref p) (L2.bM (L2.bM H1 D (.ins A.mR dD (iU ⟨cl,(pl':Nat),L'⟩))) p (.cM [.int 0]))
   generalize L2.bM H1 D (.ins A.mR dD (iU ⟨cl,(pl':Nat),L'⟩))=H2 at h2 e2 st kp hp;have d:Jg K A H2 D dD cl ns pl' L' dL' r' (foot L' r' x') _:=⟨e2,kp,nD,.inl ⟨x',h2,rfl⟩⟩;exact q.num d st (.inl ⟨x',h2,rfl⟩) gf.refl hp
def YD(F:j5 K "call_feed" "call_feed" HJ f fd)(T:Txt K mg A)(j9:rC P w K mg base A.mR "read_row" dW 2 ["self"] (adN K A))(Dz:jQ P w K mg base "feed_bytes" dW 15 ["line","row"] (ags A)):dR P w K mg base dW 16 f fd ["desk"] (Cu K A 1):=by
 refine F.mZ (N:=["desk"]) (λ_ _ _ s H _ _ _ hr h _=>?_)
 . obtain⟨D,dD,cl,ns,pl,L,dL,r,X,s,n,c,t,x,pl',rfl,h,hz,hn,hc,has,hx,ht,hl',hl,q⟩:=h;refine⟨_,(aG (aZ (jT (aa (aU Dz hr.lw (aa (aaO 0 rfl) (aa (gU T.ju (pv 0) j9 hr.lw lU) aK))) aK)))),?_⟩;generalize hd:ns.drop pl=dr at hc
   cases hc with
   |c1 m r0 hm=>
    cases hx;obtain⟨g1,g2,g3⟩:=qJ hd;have jB:r0.length=ns.length-(pl+1):=by rw[<-g2,bu]
    obtain rfl:pl'=pl+1+m:=uQ (by rw[ht,<-g2,gw]) hl' (by omega);have has':((r0.take m).all (λz=>Rc28Neutral.natural z 8)&&Rc28Neutral.long (r0.take m) ((r0.take m).length:Int) 1 16384&&Rc28Neutral.whole32 ((r0.take m).length:Int))=true:=has;simp only[bQ]at has';obtain⟨⟨a1,a2⟩,_⟩:=has';have a3:(r0.take m).length<=16384:=adn (m:=16384) a2;have eb:=S5 a1;refine⟨rfl,h.ob,T.ju,T.mV,nT,_,rfl,_,_,_,rfl,h.ob,wX,D,dD,cl,ns,pl,L,m,rfl,h.ob,h.kp.QK (λy hy=>by rw[ak.mp hy];exact .head _),g1,by omega,λp hp H1 e1=>?_⟩
    rw[g2,eb]at e1;have sm:cZ H (L2.bM H p (.cM (bv (Rc28Neutral.bytesOf (r0.take m))))):=d7 hp;obtain⟨d1,st1⟩:=(h.same sm).put (pl':=pl+1+m);have hpD:p≠D:=λz=>by rw[z,h.ob]at hp;cases hp
    have ep:H1 p=some (.cM (bv (Rc28Neutral.bytesOf (r0.take m)))):=by rw[e1,aM hpD];exact aB
    rw[<-e1]at d1 st1;have hn':n+((Rc28Neutral.bytesOf (r0.take m)).length+2)<=30000:=hn;refine⟨L,dL,r,X,s,p,Rc28Neutral.bytesOf (r0.take m),n,rfl,d1.lv,ep,h.lv.wL.out hp,by rw[CN];exact a3,hz,by omega,λr' X' H' h' st'=>⟨by show 1<=sizeLine;decide,λp2 hp2=>?_⟩⟩
    have ed:Rc28.does s (.feed (Rc28Neutral.bytesOf (r0.take m)) ((r0.take m).length:Int))=((Rc28.takes s (Rc28Neutral.bytesOf (r0.take m))).2,{value:=((Rc28.takes s (Rc28Neutral.bytesOf (r0.take m))).1:Nat)}):=by
     unfold Rc28.does;dsimp only;rw[if_neg (by omega)]
    rw[ed]at q;exact q.num d1 (gf.same sm st1) h' st' hp2
def YG(F:j5 K "call_take" "call_take" HQ f fd)(T:Txt K mg A)(bD:rC P w K mg base A.mR "read_number" dW 1 ["self"] (JZ K A))(DP:jQ P w K mg base "take_bytes" dW 2 ["line","most"] (agB A)):dR P w K mg base dW 3 f fd ["desk"] (Cu K A 2):=by
 refine F.mZ (N:=["desk"]) (λ_ _ _ s _ _ _ _ hr h _=>?_)
 . obtain⟨D,dD,cl,ns,pl,L,dL,r,X,s,n,c,t,x,pl',rfl,h,hz,hn,hc,has,hx,ht,hl',hl,q⟩:=h;refine⟨_,(aG (aZ (aU DP hr.lw (aa (aaO 0 rfl) (aa (gU T.ju (pv 0) bD hr.lw lU) aK))))),?_⟩;generalize hd:ns.drop pl=dr at hc
   cases hc with
   |c2 m r0=>
    cases hx;obtain⟨g1,g2,g3⟩:=qJ hd;obtain rfl:pl'=pl+1:=uQ (by rw[ht,g2]) hl' g3;obtain⟨d1,st1⟩:=h.put (pl':=pl+1);refine⟨rfl,h.ob,T.ju,T.mV,nT,_,rfl,_,_,_,rfl,h.ob,fJ,D,dD,cl,ns,pl,L,m,rfl,h.ob,h.kp.sq,g1,?_⟩;exact⟨L,dL,r,X,s,m,rfl,d1.lv,by rw[bw];have:=hz.out;omega,λr' X' p H' h' st' hp hpX ap=>q.line d1 st1 h' st' hp hpX ap⟩
def VB(F:j5 K "call_event" "call_event" EY f fd)(T:Txt K mg A)(DK:jQ P w K mg base "next_event" dW 4 ["line"] (agw A)):dR P w K mg base dW 5 f fd ["desk"] (Cu K A 3):=by
 refine F.mZ (N:=["desk"]) (λ_ _ _ s _ _ _ _ hr h _=>?_)
 . obtain⟨D,dD,cl,ns,pl,L,dL,r,X,s,n,c,t,x,pl',rfl,h,hz,hn,hc,has,hx,ht,hl',hl,q⟩:=h;refine⟨_,(aG (aZ (aU DK hr.lw (aa (aaO 0 rfl) aK)))),?_⟩
   cases hc
   cases hx;obtain rfl:=uQ ht hl' hl;exact⟨rfl,h.ob,T.ju,T.mV,nT,L,dL,r,X,s,n,rfl,h.lv,hz,by omega,λr' X' p H' h' st' hp hpX ap=>q.line h gf.refl h' st' hp hpX ap⟩
def Tj(F:j5 K "call_header" "call_header" Cd f fd)(T:Txt K mg A)(bD:rC P w K mg base A.mR "read_number" dW 1 ["self"] (JZ K A))(Bw:jQ P w K mg base "header_told" dW 2 ["line","k","most"] (M8 A)):dR P w K mg base dW 3 f fd ["desk"] (Cu K A 4):=by
 refine F.mZ (N:=["desk","k","most"]) (λ_ _ _ s _ _ _ _ hr h nd0=>?_)
 . obtain⟨D,dD,cl,ns,pl,L,dL,r,X,s,n,c,t,x,pl',rfl,h,hz,hn,hc,has,hx,ht,hl',hl,q⟩:=h;refine⟨_,(ao (cB (i:=1) nd0 rfl (Or.inl rfl) (gU T.ju (pv 0) bD hr.lw lU))
    (ao (cB (i:=2) nd0 rfl (Or.inl rfl) (gU T.ju (pv 0) bD hr.lw lU))
    (aG (aZ (aU Bw hr.lw (aa (aaO 0 rfl) (aa (pv 1) (aa (pv 2) aK)))))))),?_⟩
   generalize hd:ns.drop pl=dr at hc
   cases hc with
   |c4 k m r0=>
    cases hx;obtain⟨g1,g2,g3⟩:=qJ hd;obtain⟨g4,g5,g6⟩:=qJ g2;obtain rfl:pl'=pl+1+1:=uQ (by rw[ht,g5]) hl' g6;obtain⟨d1,st1⟩:=h.put (pl':=pl+1);obtain⟨d2,st2⟩:=d1.put (pl':=pl+1+1);refine⟨_,rfl,_,_,_,rfl,h.ob,fJ,D,dD,cl,ns,pl,L,k,rfl,h.ob,h.kp.sq,g1,?_⟩;refine⟨_,rfl,_,_,_,rfl,d1.ob,fJ,D,dD,cl,ns,pl+1,L,m,rfl,d1.ob,d1.kp.sq,g4,?_⟩;exact⟨rfl,d2.ob,T.ju,T.mV,nT,_,rfl,_,rfl,L,dL,r,X,s,n,k,m,rfl,d2.lv,hz,by omega,λr' X' p H' h' st' hp hpX ap=>q.line d2 (st1.trans st2) h' st' hp hpX ap⟩
def YC(F:j5 K "call_data" "call_data" HH f fd)(T:Txt K mg A)(bD:rC P w K mg base A.mR "read_number" dW 1 ["self"] (JZ K A))(Gz:jQ P w K mg base "data_told" dW 2 ["line","most"] (Uo A)):dR P w K mg base dW 3 f fd ["desk"] (Cu K A 5):=by
 refine F.mZ (N:=["desk"]) (λ_ _ _ s _ _ _ _ hr h _=>?_)
 . obtain⟨D,dD,cl,ns,pl,L,dL,r,X,s,n,c,t,x,pl',rfl,h,hz,hn,hc,has,hx,ht,hl',hl,q⟩:=h;refine⟨_,(aG (aZ (aU Gz hr.lw (aa (aaO 0 rfl) (aa (gU T.ju (pv 0) bD hr.lw lU) aK))))),?_⟩;generalize hd:ns.drop pl=dr at hc
   cases hc with
   |c5 m r0=>
    cases hx;obtain⟨g1,g2,g3⟩:=qJ hd;obtain rfl:pl'=pl+1:=uQ (by rw[ht,g2]) hl' g3;obtain⟨d1,st1⟩:=h.put (pl':=pl+1);refine⟨rfl,h.ob,T.ju,T.mV,nT,_,rfl,_,_,_,rfl,h.ob,fJ,D,dD,cl,ns,pl,L,m,rfl,h.ob,h.kp.sq,g1,?_⟩;exact⟨L,dL,r,X,s,n,m,rfl,d1.lv,hz,by omega,λr' X' p H' h' st' hp hpX ap=>q.line d1 st1 h' st' hp hpX ap⟩
def Ti(F:j5 K "call_answer" "call_answer" Ca f fd)(T:Txt K mg A)(bD:rC P w K mg base A.mR "read_number" dW 1 ["self"] (JZ K A))(j9:rC P w K mg base A.mR "read_row" dW 2 ["self"] (adN K A))(ye:jQ P w K mg base "answer_stream" dW 6 ["line","number","row","last"] (W4 A)):dR P w K mg base dW 7 f fd ["desk"] (Cu K A 6):=by
 refine F.mZ (N:=["desk","stream","last"]) (λ_ _ _ s H _ _ _ hr h nd0=>?_)
 . obtain⟨D,dD,cl,ns,pl,L,dL,r,X,s,n,c,t,x,pl',rfl,h,hz,hn,hc,has,hx,ht,hl',hl,q⟩:=h;refine⟨_,(ao (cB (i:=1) nd0 rfl (Or.inl rfl) (gU T.ju (pv 0) bD hr.lw lU))
    (ao (cB (i:=2) nd0 rfl (Or.inl rfl) (gU T.ju (pv 0) bD hr.lw lU))
    (aG (aZ (jT (aa (aU ye hr.lw (aa (aaO 0 rfl) (aa (pv 1) (aa (gU T.ju (pv 0) j9 hr.lw lU) (aa (mL uA (pv 2) bx (bO _)) aK))))) aK)))))),?_⟩
   generalize hd:ns.drop pl=dr at hc
   cases hc with
   |c6 i la m r0 hm=>
    cases hx;obtain⟨g1,g2,g3⟩:=qJ hd;obtain⟨g4,g5,g6⟩:=qJ g2;obtain⟨g7,g8,g9⟩:=qJ g5;have jB:r0.length=ns.length-(pl+1+1+1):=by rw[<-g8,bu]
    obtain rfl:pl'=pl+1+1+1+m:=uQ (by rw[ht,<-g8,gw]) hl' (by omega);have has':(Rc28Neutral.whole32 i&&((r0.take m).all (λz=>Rc28Neutral.natural z 8)&&Rc28Neutral.long (r0.take m) ((r0.take m).length:Int) 1 16384&&(Rc28Neutral.whole32 ((r0.take m).length:Int)&&Rc28Neutral.whole32 la)))=true:=has;simp only[bQ]at has';obtain⟨_,⟨a1,a2⟩,_⟩:=has';have a3:(r0.take m).length<=16384:=adn (m:=16384) a2;have eb:=S5 a1;obtain⟨d1,st1⟩:=h.put (pl':=pl+1);obtain⟨d2,st2⟩:=d1.put (pl':=pl+1+1);refine⟨_,rfl,_,_,_,rfl,h.ob,fJ,D,dD,cl,ns,pl,L,i,rfl,h.ob,h.kp.sq,g1,?_⟩;refine⟨_,rfl,_,_,_,rfl,d1.ob,fJ,D,dD,cl,ns,pl+1,L,la,rfl,d1.ob,d1.kp.sq,g4,?_⟩;generalize L2.bM (L2.bM H D (.ins A.mR dD (iU ⟨cl,((pl+1:Nat):Int),L⟩))) D (.ins A.mR dD (iU ⟨cl,((pl+1+1:Nat):Int),L⟩))=H2 at d2 st2;refine⟨rfl,d2.ob,T.ju,T.mV,nT,_,rfl,_,rfl,_,_,_,rfl,d2.ob,wX,D,dD,cl,ns,pl+1+1,L,m,rfl,d2.ob,d2.kp.QK (λy hy=>by rw[ak.mp hy];exact .head _),g7,by omega,λp hp H3 e3=>?_⟩
    rw[g8,eb]at e3;have sm:cZ H2 (L2.bM H2 p (.cM (bv (Rc28Neutral.bytesOf (r0.take m))))):=d7 hp;obtain⟨d3,st3⟩:=(d2.same sm).put (pl':=pl+1+1+1+m);have hpD:p≠D:=λz=>by rw[z,d2.ob]at hp;cases hp
    have ep:H3 p=some (.cM (bv (Rc28Neutral.bytesOf (r0.take m)))):=by rw[e3,aM hpD];exact aB
    rw[<-e3]at d3 st3;have el:((r0.take m).length:Int)=(((Rc28Neutral.bytesOf (r0.take m)).length:Nat):Int):=by rw[CN]
    rw[el]at q;refine⟨_,rfl,rfl,L,dL,r,X,s,n,i,p,Rc28Neutral.bytesOf (r0.take m),la,rfl,d3.lv,hz,by omega,ep,d2.lv.wL.out hp,by rw[CN];exact a3,λr' X' H' h' st'=>⟨by show 1<=sizeLine;decide,λp2 hp2=>?_⟩⟩
    have ea:nu (Rc28.does s (.answer i (Rc28Neutral.bytesOf (r0.take m)) ((Rc28Neutral.bytesOf (r0.take m)).length:Int) la)).2=[(Rc28.does s (.answer i (Rc28Neutral.bytesOf (r0.take m)) ((Rc28Neutral.bytesOf (r0.take m)).length:Int) la)).2.value]:=by
     unfold nu;rw[ach];rfl
    rw[ea]at q;exact q.num d3 ((st1.trans st2).trans (gf.same sm st3)) h' st' hp2
def YF(F:j5 K "call_send" "call_send" HN f fd)(T:Txt K mg A)(bD:rC P w K mg base A.mR "read_number" dW 1 ["self"] (JZ K A))(j9:rC P w K mg base A.mR "read_row" dW 2 ["self"] (adN K A))(GJ:jQ P w K mg base "send_data" dW 5 ["line","number","row","last"] (adR A)):dR P w K mg base dW 6 f fd ["desk"] (Cu K A 7):=by
 refine F.mZ (N:=["desk","stream","last"]) (λ_ _ _ s H _ _ _ hr h nd0=>?_)
 . obtain⟨D,dD,cl,ns,pl,L,dL,r,X,s,n,c,t,x,pl',rfl,h,hz,hn,hc,has,hx,ht,hl',hl,q⟩:=h;refine⟨_,(ao (cB (i:=1) nd0 rfl (Or.inl rfl) (gU T.ju (pv 0) bD hr.lw lU))
    (ao (cB (i:=2) nd0 rfl (Or.inl rfl) (gU T.ju (pv 0) bD hr.lw lU))
    (aG (aZ (jT (aa (aU GJ hr.lw (aa (aaO 0 rfl) (aa (pv 1) (aa (gU T.ju (pv 0) j9 hr.lw lU) (aa (mL uA (pv 2) bx (bO _)) aK))))) aK)))))),?_⟩
   generalize hd:ns.drop pl=dr at hc
   cases hc with
   |c7 i la m r0 hm=>
    cases hx;obtain⟨g1,g2,g3⟩:=qJ hd;obtain⟨g4,g5,g6⟩:=qJ g2;obtain⟨g7,g8,g9⟩:=qJ g5;have jB:r0.length=ns.length-(pl+1+1+1):=by rw[<-g8,bu]
    obtain rfl:pl'=pl+1+1+1+m:=uQ (by rw[ht,<-g8,gw]) hl' (by omega);have has':(Rc28Neutral.whole32 i&&((r0.take m).all (λz=>Rc28Neutral.natural z 8)&&Rc28Neutral.long (r0.take m) ((r0.take m).length:Int) 1 65536&&(Rc28Neutral.whole32 ((r0.take m).length:Int)&&Rc28Neutral.whole32 la)))=true:=has;simp only[bQ]at has';obtain⟨_,⟨a1,a2⟩,_⟩:=has';have eb:=S5 a1;obtain⟨d1,st1⟩:=h.put (pl':=pl+1);obtain⟨d2,st2⟩:=d1.put (pl':=pl+1+1);refine⟨_,rfl,_,_,_,rfl,h.ob,fJ,D,dD,cl,ns,pl,L,i,rfl,h.ob,h.kp.sq,g1,?_⟩;refine⟨_,rfl,_,_,_,rfl,d1.ob,fJ,D,dD,cl,ns,pl+1,L,la,rfl,d1.ob,d1.kp.sq,g4,?_⟩;generalize L2.bM (L2.bM H D (.ins A.mR dD (iU ⟨cl,((pl+1:Nat):Int),L⟩))) D (.ins A.mR dD (iU ⟨cl,((pl+1+1:Nat):Int),L⟩))=H2 at d2 st2;refine⟨rfl,d2.ob,T.ju,T.mV,nT,_,rfl,_,rfl,_,_,_,rfl,d2.ob,wX,D,dD,cl,ns,pl+1+1,L,m,rfl,d2.ob,d2.kp.QK (λy hy=>by rw[ak.mp hy];exact .head _),g7,by omega,λp hp H3 e3=>?_⟩
    rw[g8,eb]at e3;have sm:cZ H2 (L2.bM H2 p (.cM (bv (Rc28Neutral.bytesOf (r0.take m))))):=d7 hp;obtain⟨d3,st3⟩:=(d2.same sm).put (pl':=pl+1+1+1+m);have hpD:p≠D:=λz=>by rw[z,d2.ob]at hp;cases hp
    have ep:H3 p=some (.cM (bv (Rc28Neutral.bytesOf (r0.take m)))):=by rw[e3,aM hpD];exact aB
    rw[<-e3]at d3 st3;have el:((r0.take m).length:Int)=(((Rc28Neutral.bytesOf (r0.take m)).length:Nat):Int):=by rw[CN]
    have hn':n+((Rc28Neutral.bytesOf (r0.take m)).length+4)<=30000:=hn;rw[el]at q;refine⟨_,rfl,rfl,L,dL,r,X,s,n,i,p,Rc28Neutral.bytesOf (r0.take m),la,rfl,d3.lv,hz,by omega,ep,d2.lv.wL.out hp,by omega,λr' X' H' h' st'=>⟨by show 1<=sizeLine;decide,λp2 hp2=>?_⟩⟩
    have ea:nu (Rc28.does s (.send i (Rc28Neutral.bytesOf (r0.take m)) ((Rc28Neutral.bytesOf (r0.take m)).length:Int) la)).2=[(Rc28.does s (.send i (Rc28Neutral.bytesOf (r0.take m)) ((Rc28Neutral.bytesOf (r0.take m)).length:Int) la)).2.value]:=by
     unfold nu;rw[afY];rfl
    rw[ea]at q;exact q.num d3 ((st1.trans st2).trans (gf.same sm st3)) h' st' hp2
def VD(F:j5 K "call_reset" "call_reset" Fb f fd)(T:Txt K mg A)(bD:rC P w K mg base A.mR "read_number" dW 1 ["self"] (JZ K A))(zF:jQ P w K mg base "reset_stream" dW 4 ["line","number","code"] (abg A)):dR P w K mg base dW 5 f fd ["desk"] (Cu K A 8):=by
 refine F.mZ (N:=["desk","stream","code"]) (λ_ _ _ s _ _ _ _ hr h nd0=>?_)
 . obtain⟨D,dD,cl,ns,pl,L,dL,r,X,s,n,c,t,x,pl',rfl,h,hz,hn,hc,has,hx,ht,hl',hl,q⟩:=h;refine⟨_,(ao (cB (i:=1) nd0 rfl (Or.inl rfl) (gU T.ju (pv 0) bD hr.lw lU))
    (ao (cB (i:=2) nd0 rfl (Or.inl rfl) (gU T.ju (pv 0) bD hr.lw lU))
    (aG (aZ (jT (aa (aU zF hr.lw (aa (aaO 0 rfl) (aa (pv 1) (aa (pv 2) aK)))) aK)))))),?_⟩
   generalize hd:ns.drop pl=dr at hc
   cases hc with
   |c8 i c0 r0=>
    cases hx;obtain⟨g1,g2,g3⟩:=qJ hd;obtain⟨g4,g5,g6⟩:=qJ g2;obtain rfl:pl'=pl+1+1:=uQ (by rw[ht,g5]) hl' g6;obtain⟨d1,st1⟩:=h.put (pl':=pl+1);obtain⟨d2,st2⟩:=d1.put (pl':=pl+1+1);refine⟨_,rfl,_,_,_,rfl,h.ob,fJ,D,dD,cl,ns,pl,L,i,rfl,h.ob,h.kp.sq,g1,?_⟩;refine⟨_,rfl,_,_,_,rfl,d1.ob,fJ,D,dD,cl,ns,pl+1,L,c0,rfl,d1.ob,d1.kp.sq,g4,?_⟩;have ea:nu (Rc28.does s (.reset i c0)).2=[(Rc28.does s (.reset i c0)).2.value]:=by
     unfold nu;rw[aez];rfl
    rw[ea]at q;exact⟨rfl,d2.ob,T.ju,T.mV,nT,_,rfl,_,rfl,L,dL,r,X,s,n,i,c0,rfl,d2.lv,hz,by omega,λr' X' H' h' st'=>⟨by show 1<=sizeLine;decide,λp2 hp2=>q.num d2 (st1.trans st2) h' st' hp2⟩⟩
def YB(F:j5 K "call_away" "call_away" HF f fd)(T:Txt K mg A)(bD:rC P w K mg base A.mR "read_number" dW 1 ["self"] (JZ K A))(Np:jQ P w K mg base "go_away" dW 4 ["line","code"] (agq A)):dR P w K mg base dW 5 f fd ["desk"] (Cu K A 9):=by
 refine F.mZ (N:=["desk"]) (λ_ _ _ s _ _ _ _ hr h _=>?_)
 . obtain⟨D,dD,cl,ns,pl,L,dL,r,X,s,n,c,t,x,pl',rfl,h,hz,hn,hc,has,hx,ht,hl',hl,q⟩:=h;refine⟨_,(aG (aZ (jT (aa (aU Np hr.lw (aa (aaO 0 rfl) (aa (gU T.ju (pv 0) bD hr.lw lU) aK))) aK)))),?_⟩;generalize hd:ns.drop pl=dr at hc
   cases hc with
   |c9 m r0=>
    cases hx;obtain⟨g1,g2,g3⟩:=qJ hd;obtain rfl:pl'=pl+1:=uQ (by rw[ht,g2]) hl' g3;obtain⟨d1,st1⟩:=h.put (pl':=pl+1);have ea:nu (Rc28.does s (.away m)).2=[(Rc28.does s (.away m)).2.value]:=by
     unfold nu;rw[afX];rfl
    rw[ea]at q;refine⟨rfl,h.ob,T.ju,T.mV,nT,_,rfl,_,_,_,rfl,h.ob,fJ,D,dD,cl,ns,pl,L,m,rfl,h.ob,h.kp.sq,g1,?_⟩;exact⟨L,dL,r,X,s,n,m,rfl,d1.lv,hz,by omega,λr' X' H' h' st'=>⟨by show 1<=sizeLine;decide,λp2 hp2=>q.num d1 st1 h' st' hp2⟩⟩
end My
namespace L2
open PySem PySem.Spec PyProof.Rows
def Jr(H:Hp)(a:Addr):Hp:=λb=>if b=a then none else H b
def SN:Jr H a a=none:=if_pos rfl
def Hf(h:b≠a):Jr H a b=H b:=if_neg h
def ak6(te:TE):TE:=λσ H Q=>∃a xs,H a=some (.cM xs)/\te σ (Jr H a) λv H'=>H' a=none->Q v (bM H' a (.cM xs))
def ahL{X:Cx}(h:PE X e te):PE X e (ak6 te):=by
 intro aN s σ H Q I q;obtain⟨a,xs,ha,q⟩:=q;have ob:=I.mC a _ ha;obtain⟨hz,its,n,rv,hg⟩:=ob;have nn:∀{b:Addr},H b=none->b≠a:=λhb z=>by rw[z,ha]at hb;cases hb
 have ns:∀{b:Addr}{o:HO},H b=some o->o≠.cM xs->Jr H a b=some o:=fun {b o} hb hn=>by
  rw[Hf λz=>hn (by rw[z,ha]at hb;exact(cz hb).symm)];exact hb
 have nf:a∉X.fs:=λhb=>by
  obtain⟨_,o,ho,_⟩:=I.ok.Ks.mem hb;have:=I.base.free a o ho (I.ok.frf a hb) (λm=>I.ok.aaH a m hb);rw[ha]at this;cases this
 have I1:d8 X (aN++[(a,{cls:=.type "list",data:=.seq its.toArray n})]) σ (Jr H a) s:=by
  refine⟨I.ok,I.os,I.bare,⟨I.base.keep,I.base.slot,λb o e n hx=>?_,I.base.there,λb ys e=>ns (I.base.tups b ys e) (λz=>nomatch z),λb o u e=>ns (I.base.Kr b o u e) (λz=>nomatch z),λb ps e=>?_⟩,I.PL,I.cell,?_,λx c e=>?_,λp hp=>?_,λb o e=>?_,I.len⟩
  . have:=I.base.free b o e n hx;rw[Hf (nn this)];exact this
  . obtain⟨more,z⟩:=I.base.Pg b ps e;exact⟨more,ns z (λz=>nomatch z)⟩
  . rw[Hf (nn I.free)];exact I.free
  . rw[Hf (nn (I.tD x c e))];exact I.tD x c e
  . rcases dY.mp hp with hp|hp
    . obtain⟨z1,z2,z3⟩:=I.Qc p (bY _ hp);exact⟨z1,by rw[Hf (nn z2)];exact z2,z3⟩
    . rcases dY.mp hp with hp|hp
      . obtain⟨z1,z2,z3⟩:=I.Qc p (cF _ hp);exact⟨z1,by rw[Hf (nn z2)];exact z2,z3⟩
      . rw[ak.mp hp];exact⟨hg,SN,Ne.symm (nn I.free),nf,λv z=>nomatch z⟩
  . have hb:b≠a:=λz=>by rw[z,SN]at e;cases e
    rw[Hf hb]at e;exact(I.mC b o e).Rc (λc u _ q=>q) (λc q=>ns q λz=>nomatch z) λc ys q=>ns q λz=>nomatch z
 refine nO (h _ s σ _ _ I1 q) λv s1 ⟨x,H1,I2,rx,q2⟩=>?_;obtain⟨p1,p2,p3⟩:=I2.Qc (a,_) (cF _ (cF _ (ak.mpr rfl)));have keep:∀{b:Addr}{o:HO},H1 b=some o->bM H1 a (.cM xs) b=some o:=fun {b o} e=>by rw[aM (aD e p2)];exact e
 refine⟨x,bM H1 a (.cM xs),⟨I.ok,I2.os,I2.bare,⟨I2.base.keep,I2.base.slot,λb o e n hx=>?_,I2.base.there,λb ys e=>keep (I2.base.tups b ys e),λb o u e=>keep (I2.base.Kr b o u e),λb ps e=>?_⟩,I2.PL,I2.cell,?_,λy c e=>?_,λp hp=>?_,λb o e=>?_,I2.len⟩,rx,q2 p2⟩
 . rw[aM (nn (I.base.free b o e n hx))];exact I2.base.free b o e n hx
 . obtain⟨more,z⟩:=I2.base.Pg b ps e;exact⟨more,keep z⟩
 . rw[aM (nn I.free)];exact I2.free
 . rw[aM (nn (I.tD y c e))];exact I2.tD y c e
 . obtain⟨z1,z2,z3⟩:=I2.Qc p (by
    rcases dY.mp hp with hp|hp
    . exact bY _ hp
    . exact cF _ (bY _ hp))
   exact⟨z1,by rw[aM (nn (I.Qc p hp).2.1)];exact z2,z3⟩
 . by_cases hb:b=a
   . subst hb;rw[aB]at e
     cases e;exact⟨hz,its,n,rv,p1⟩
   . rw[aM hb]at e;exact(I2.mC b o e).Rc (λc u _ q=>q) (λc q=>keep q) λc ys q=>keep q
end L2
namespace My
open PySem L2
def ah6:Sz 0 ({}:Ra):=
 ⟨aH _,⟨by decide,by decide⟩,λe h=>(by cases h),λe h=>(by cases h),aH _,aH _,bW _,.nil,λx h=>(by cases h),by decide,bW _,λk h=>(by cases h)⟩
def afi{f:Nat}{p:Int}{r:List Int}{cs:List (List (List Int))}(h:PyFlat.calls PyRc28.shape f (p::r)=some cs):∃(c:List (List Int)) (t:List Int) (cs':List (List (List Int))) (g:Nat),cs=c::cs'/\PyFlat.call PyRc28.shape (p::r)=some (c,t)/\PyFlat.calls PyRc28.shape g t=some cs':=by
 cases f with
 |zero=>unfold PyFlat.calls at h;cases h
 |succ f=>
  unfold PyFlat.calls at h
  cases e:PyFlat.call PyRc28.shape (p::r) with
  |none=>rw[e]at h;cases h
  |some ct=>
   obtain⟨c,t⟩:=ct;rw[e]at h;dsimp only at h
   cases e2:PyFlat.calls PyRc28.shape f t with
   |none=>rw[e2]at h;cases h
   |some cs'=>rw[e2]at h;cases h;exact⟨c,t,cs',f,rfl,rfl,e2⟩
def aea{f:Nat}{cs:List (List (List Int))}(h:PyFlat.calls PyRc28.shape f []=some cs):cs=[]:=by
 unfold PyFlat.calls at h
 cases f<;>(cases h;rfl)
def aiS{l:List Int}{c:List (List Int)}{t:List Int}{x:Rc28.Call}(h:Cl l c t)(hx:ajL c=some x):l.length=t.length+cn x:=by
 cases h<;>cases hx<;>(unfold cn;dsimp only;simp only[bj,CN,aY,bu];try omega)
def ahc{l:List Int}{c:List (List Int)}{t:List Int}(h:Cl l c t):∃k,t=l.drop k/\k<=l.length:=by
 have:∃k,t=l.drop k:=by
  cases h with
  |c0 r=>exact⟨1,rfl⟩
  |c1 n r h=>exact⟨2+n,by rw[Nat.add_comm];rfl⟩
  |c2 x r=>exact⟨2,rfl⟩
  |c3 r=>exact⟨1,rfl⟩
  |c4 x y r=>exact⟨3,rfl⟩
  |c5 x r=>exact⟨2,rfl⟩
  |c6 x y n r h=>exact⟨4+n,by rw[Nat.add_comm];rfl⟩
  |c7 x y n r h=>exact⟨4+n,by rw[Nat.add_comm];rfl⟩
  |c8 x y r=>exact⟨3,rfl⟩
  |c9 x r=>exact⟨2,rfl⟩
 obtain⟨k,rfl⟩:=this;rcases Nat.le_total k l.length with z|z
 . exact⟨k,rfl,z⟩
 . exact⟨l.length,by rw[lO,eU z],aH _⟩
structure Byc(P:Program)(w:World)(K:Fg)(mg:Str->Option Value)(base:Heap)(A:Ad)(f0 f1 f2 f3 f4 f5 f6 f7 f8 f9:Addr):Prop where
 t:∀H,Bx K H A.uf [.ref f0,.ref f1,.ref f2,.ref f3,.ref f4,.ref f5,.ref f6,.ref f7,.ref f8,.ref f9]
 a0:UW P w K mg base 10 f0 (Cu K A 0)
 a1:UW P w K mg base 16 f1 (Cu K A 1)
 a2:UW P w K mg base 3 f2 (Cu K A 2)
 a3:UW P w K mg base 5 f3 (Cu K A 3)
 a4:UW P w K mg base 3 f4 (Cu K A 4)
 a5:UW P w K mg base 3 f5 (Cu K A 5)
 a6:UW P w K mg base 7 f6 (Cu K A 6)
 a7:UW P w K mg base 6 f7 (Cu K A 7)
 a8:UW P w K mg base 5 f8 (Cu K A 8)
 a9:UW P w K mg base 5 f9 (Cu K A 9)
inductive anI(K:Fg)(A:Ad)(a D dD an:Addr)(ns:List Int)(m:Nat)(σ:St)(H:Hp):Prop
 |mk (H0:Hp) (pl g:Nat) (cs:List (List (List Int))) (acc:List Int) (s:Ra) (L dL:Addr) (r:gM) (X:List Addr) (t:Option V) (_:m=ns.length-pl) (_:pl<=ns.length) (_:σ=[some (.ref a),some (.ref D),some (.ref an),t]) (_:Jg K A H0 D dD a ns pl L dL r X s) (_:Sz pl s) (_:PyFlat.calls PyRc28.shape g (ns.drop pl)=some cs) (_:(cs.map PyRc28.whole).all Rc28Neutral.asked1=true) (_:cs.length<=300) (_:H0 an=none) (_:H=L2.bM H0 an (.cM (iv acc))) (_:acc++due s cs=PyRc28.answers ns) (_:acc.length+s.out.length<=26*pl+34102*(300-cs.length))
def ahl(h:H a=none):Jr (L2.bM H a o) a=H:=by
 funext b;by_cases hb:b=a
 . rw[hb,SN,h]
 . rw[Hf hb,aM hb]
def acj(F:j5 K "answers" "answers" Dg f fd)(T:Txt K mg A)(Gx:DQ P w K mg base "Desk" A.mR 9 ["self","calls"] (Up A))(bD:rC P w K mg base A.mR "read_number" dW 1 ["self"] (JZ K A)){f0 f1 f2 f3 f4 f5 f6 f7 f8 f9:Addr}(B:Byc P w K mg base A f0 f1 f2 f3 f4 f5 f6 f7 f8 f9):
 dR P w K mg base dW 17 f fd ["calls"] (agp K):=by
 refine F.mZ (N:=["calls","desk","answered","answer"]) (λ_ _ _ s H _ Q _ hr h nd0=>?_)
 . obtain⟨a,ns,rfl,hO,hS,jB,hask,q⟩:=h;refine⟨_,(ao (cB (i:=1) nd0 rfl (Or.inl rfl) (qt Gx hr.lw (aa (pv 0) aK)))
    (ao (cB (i:=2) nd0 rfl (Or.inl rfl) (jT aK))
    (ao (De b8 (bF yS (aaO 1 rfl) (bV bc (by rfl) T.gO aO (aa (pv 0) aK)) (bO _)) (ao (cB (i:=3) nd0 rfl (Or.inl rfl) (ahL (aa4 (vU Ys (cR T.ad3) (gU T.ju (pv 1) bD hr.lw lU) (λ_ _=>rfl)) lU (aa (pv 1) aK))))
    (ao (dz (uR bB fQ fV vQ (pv 2) (aa (bV bc (by rfl) T.gO aO (aa (pv 3) aK)) aK)))
    (aG (dz (uR bB fU fW vR (pv 2) (aa (pv 3) aK)))))))
    (aG (aZ (pv 2)))))),?_⟩
   obtain⟨cs0,hcs0,hat,hall⟩:∃cs0,PyFlat.calls PyRc28.shape ns.length ns=some cs0/\cs0.length<=300/\(cs0.map PyRc28.whole).all Rc28Neutral.asked1=true:=by
    unfold PyRc28.answers_asked PyRc28.calls at hask
    cases e:PyFlat.calls PyRc28.shape ns.length ns with
    |none=>rw[e]at hask;cases hask
    |some cs=>
     rw[e]at hask;dsimp only at hask;rw[bQ]at hask;obtain⟨h1,h2⟩:=hask;unfold PyFlat.atMost at h1;unfold Rc28Neutral.asked at h2;rw[bQ]at h2;have:=bL h1;rw[aC]at this;exact⟨cs,rfl,this,h2.1⟩
   have hdue:PyRc28.answers ns=due {} cs0:=by
    unfold PyRc28.answers PyRc28.calls;rw[hcs0];rfl
   refine⟨_,rfl,λD dD hD hdD hne=>?_⟩;refine⟨D,dD,a,rfl,aB,λL dL r x H1 e1 h1 hX b1=>⟨rfl,?_⟩⟩;have sm1:cZ H H1:=λc u e=>b1 c u (by rw[aM (aD e hD),aM (aD e hdD)];exact e) (aD e hD)
   have hXf:∀y∈foot L r x,H y=none/\y≠D:=λy hy=>by
    have z:=hX y hy;have hyD:y≠D:=λe=>by rw[e,aB]at z;cases z
    by_cases h3:y=dD
    . rw[h3];exact⟨hdD,λe=>hne e⟩
    . rw[aM hyD,aM h3]at z;exact⟨z,hyD⟩
   refine⟨by decide,λan han=>?_⟩;have st2:gf [] H (D::foot L r x) H1:=⟨cZ.iV sm1,λy hy=>by
    rcases aJ.mp hy with rfl|hy
    . exact .inr hD
    . exact .inr (hXf y hy).1⟩
   have d2:Jg K A H1 D dD a ns 0 L dL r (foot L r x) {}:=⟨e1,(akH hS).Rz st2,λm=>(hXf D m).2 rfl,.inl ⟨x,h1,rfl⟩⟩;refine⟨anI K A a D dD an ns,⟨_,H1,0,ns.length,cs0,[],{},L,dL,r,_,none,rfl,bW _,rfl,d2,ah6,by rw[lH];exact hcs0,hall,hat,han,rfl,by rw[hdue];rfl,bW _⟩,?_⟩
   rintro m σ H3 ⟨H0,pl,g,cs,acc,s,L,dL,r,X,t,rfl,hpl,rfl,d,hz,hcs,hal,h300,h0n,rfl,hdu,hsz⟩;have sm3:cZ H0 (L2.bM H0 an (.cM (iv acc))):=d7 h0n;have dd:=d.same sm3;refine⟨rfl,dd.ob,T.ju,T.qN,rO,_,rfl,_,_,rfl,.inl dd.kp.sq,_,_,rfl,rfl,_,rfl,?_⟩;have ivl:(iv ns).length=ns.length:=aC ..;show if decide (((pl:Nat):Int)<(((iv ns).length:Nat):Int))=true then _ else _
   rw[ivl];by_cases hlt:pl<ns.length
   . rw[show decide (((pl:Nat):Int)<((ns.length:Nat):Int))=true from az (by omega)];refine cQ ⟨λσ' H'=>∃m',m'<ns.length-pl/\anI K A a D dD an ns m' σ' H',λ_ _ z=>z,?_⟩;obtain⟨p,r0,hd0⟩:∃p r0,ns.drop pl=p::r0:=⟨_,_,iy hlt⟩;obtain⟨g1,g2,g3⟩:=qJ hd0;rw[hd0]at hcs;obtain⟨c,tl,cs',g',rfl,hcl,hcs'⟩:=afi hcs;have hc:=aha hcl;obtain⟨x0,hx1,hx2⟩:=akq hc;have hl2:=aiS hc hx2;have hl3:(p::r0).length=ns.length-pl:=by rw[<-hd0,bu]
     have hpl':ns.drop (pl+cn x0)=tl:=by
      obtain⟨k,ek,hk⟩:=ahc hc;have:tl.length=(p::r0).length-k:=by rw[ek,bu]
      have:k=cn x0:=by omega
      rw[ek,this,<-hd0,gw]
     rw[bG,jK,bQ]at hal;have hcs300:cs'.length+1<=300:=h300;obtain⟨d1,st1⟩:=d.put (pl':=pl+1);have hst:=ah2 hx1 s;rw[afs,hst]at hdu;dsimp only at hdu;have hdu':acc++(((nu (Rc28.does s x0).2).length:Int)::(nu (Rc28.does s x0).2++due (Rc28.does s x0).1 cs'))=PyRc28.answers ns:=hdu;have pot:=afq hz (by omega) x0;have szd:=ahe hz x0;have hal':(nu (Rc28.does s x0).2).length=(Rc28.does s x0).2.numbers.length+1:=by unfold nu;rw[bj,aC]
     generalize hE:L2.bM H0 D (.ins A.mR dD (iU ⟨a,((pl+1:Nat):Int),L⟩))=H4 at d1 st1;have aap:Wg K A D dD a ns (pl+cn x0) X H4 (Rc28.does s x0).1 (nu (Rc28.does s x0).2) (λv H5=>H5 an=none->(Dq (yX (tBM K "list" Y9 (iw 2) (fG (tCB (λxs H Q=>∃p ys,xs=[V.ref p]/\(fH K H p ys\/Bx K H p ys)/\Q (.int ys.length) H) (fG (iw 3) oO)) oO))) (yX (tBM K "list" Za (iw 2) (fG (iw 3) oO)))) {nx:=λσ' H'=>∃m',m'<ns.length-pl/\anI K A a D dD an ns m' σ' H',ct:=λσ' H'=>∃m',m'<ns.length-pl/\anI K A a D dD an ns m' σ' H',bk:=(Dn (iw 2)) {nx:=λ_ H'=>Q .non H',rt:=Q},rt:=Q} [some (.ref a),some (.ref D),some (.ref an),some v] (L2.bM H5 an (.cM (iv acc)))):=by
      intro L' dL' r' X' pz H5 d5 st5 hpz npz ap h5n;have npa:pz≠an:=aD hpz h5n;have hcn:pl+cn x0<=30000:=by omega
      have sm5:cZ H5 (L2.bM H5 an (.cM (iv acc))):=d7 h5n;refine⟨_,rfl,.inl ⟨rfl,_,fH.of aB⟩,_,rfl,_,_,rfl,.inl (fH.of (sm5 _ _ hpz)),_,_,_,rfl,rfl,aB,by unfold iv;rw[aC,bw];omega,?_⟩
      rw[jc];have e6:L2.bM H5 an (.cM (iv acc++[.int (((iv (nu (Rc28.does s x0).2)).length:Nat):Int)])) an=some (.cM (iv (acc++[((nu (Rc28.does s x0).2).length:Int)]))):=by
       rw[aB];unfold iv;rw[dm,aC];rfl
      have e6p:L2.bM H5 an (.cM (iv acc++[.int (((iv (nu (Rc28.does s x0).2)).length:Nat):Int)])) pz=some (.cM (iv (nu (Rc28.does s x0).2))):=by rw[aM npa];exact hpz
      refine⟨_,rfl,.inl ⟨rfl,_,fH.of e6⟩,_,rfl,_,_,_,_,rfl,rfl,e6,e6p,by unfold iv;rw[aC,aC,aF,hal',bw];show _+1+_<=_;omega,?_⟩
      rw[jc];refine⟨ns.length-(pl+cn x0),by have:=aiT x0;omega,H5,pl+cn x0,g',cs',acc++[((nu (Rc28.does s x0).2).length:Int)]++nu (Rc28.does s x0).2,(Rc28.does s x0).1,L',dL',r',X',some (.ref pz),rfl,by omega,rfl,d5,szd,by rw[hpl'];exact hcs',hal.2,by omega,h5n,?_,?_,?_⟩
      . have ej:∀u v:List Int,iv (u++v)=iv u++iv v:=λu v=>by unfold iv;exact dm
        rw[ej (acc++_)]
      . rw[<-hdu'];simp only[iC,jU,mD]
      . rw[aF,aF,hal'];have:300-cs'.length=300-(cs'.length+1)+1:=by omega
        have hs2:acc.length+s.out.length<=26*pl+34102*(300-(cs'.length+1)):=hsz;show acc.length+1+_+_<=_
        rw[this];omega
     refine⟨an,_,aB,?_⟩;rw[ahl h0n];refine⟨_,rfl,_,_,_,rfl,d.ob,fJ,D,dD,a,ns,pl,L,p,rfl,d.ob,d.kp.sq,g1,?_⟩;have cal:∀{k:Nat}{ga:Addr}{sp:Sp},k<=16->UW P w K mg base k ga sp->∀(X:Cx),X.prog=P->X.w=w->X.K=K->X.mg=mg->X.base=base->pB 16 X.A->abw X dW ga sp:=by
      intro k ga sp hk at0 X e1 e2 e3 e4 e5 hr';subst e1 e2 e3 e4 e5;obtain⟨z1,fd',ps,z2,z3⟩:=at0;exact⟨z1,k,fd',ps,z2,hr'.mono hk,z3⟩
     rw[hE];have args:∀k:Int,p=k->Cu K A k [.ref D] H4 (λv H5=>H5 an=none->(Dq (yX (tBM K "list" Y9 (iw 2) (fG (tCB (λxs H Q=>∃p ys,xs=[V.ref p]/\(fH K H p ys\/Bx K H p ys)/\Q (.int ys.length) H) (fG (iw 3) oO)) oO))) (yX (tBM K "list" Za (iw 2) (fG (iw 3) oO)))) {nx:=λσ' H'=>∃m',m'<ns.length-pl/\anI K A a D dD an ns m' σ' H',ct:=λσ' H'=>∃m',m'<ns.length-pl/\anI K A a D dD an ns m' σ' H',bk:=(Dn (iw 2)) {nx:=λ_ H'=>Q .non H',rt:=Q},rt:=Q} [some (.ref a),some (.ref D),some (.ref an),some v] (L2.bM H5 an (.cM (iv acc)))) E0:=by
      rintro k rfl;exact⟨D,dD,a,ns,pl+1,L,dL,r,X,s,pl,c,tl,x0,pl+cn x0,rfl,d1,hz,by omega,by rw[g2];exact hc,hal.1,hx2,hpl',by omega,by omega,aap⟩
     clear aap
     cases hc with
     |c0 r=>exact⟨A.uf,_,_,_,rfl,rfl,B.t H4,jN (j:=0) rfl rfl,_,_,rfl,cal (by decide) B.a0 _ rfl rfl rfl rfl rfl hr,_,rfl,args 0 rfl⟩
     |c1 n r h=>exact⟨A.uf,_,_,_,rfl,rfl,B.t H4,jN (j:=1) rfl rfl,_,_,rfl,cal (by decide) B.a1 _ rfl rfl rfl rfl rfl hr,_,rfl,args 1 rfl⟩
     |c2 x r=>exact⟨A.uf,_,_,_,rfl,rfl,B.t H4,jN (j:=2) rfl rfl,_,_,rfl,cal (by decide) B.a2 _ rfl rfl rfl rfl rfl hr,_,rfl,args 2 rfl⟩
     |c3 r=>exact⟨A.uf,_,_,_,rfl,rfl,B.t H4,jN (j:=3) rfl rfl,_,_,rfl,cal (by decide) B.a3 _ rfl rfl rfl rfl rfl hr,_,rfl,args 3 rfl⟩
     |c4 x y r=>exact⟨A.uf,_,_,_,rfl,rfl,B.t H4,jN (j:=4) rfl rfl,_,_,rfl,cal (by decide) B.a4 _ rfl rfl rfl rfl rfl hr,_,rfl,args 4 rfl⟩
     |c5 x r=>exact⟨A.uf,_,_,_,rfl,rfl,B.t H4,jN (j:=5) rfl rfl,_,_,rfl,cal (by decide) B.a5 _ rfl rfl rfl rfl rfl hr,_,rfl,args 5 rfl⟩
     |c6 x y n r h=>exact⟨A.uf,_,_,_,rfl,rfl,B.t H4,jN (j:=6) rfl rfl,_,_,rfl,cal (by decide) B.a6 _ rfl rfl rfl rfl rfl hr,_,rfl,args 6 rfl⟩
     |c7 x y n r h=>exact⟨A.uf,_,_,_,rfl,rfl,B.t H4,jN (j:=7) rfl rfl,_,_,rfl,cal (by decide) B.a7 _ rfl rfl rfl rfl rfl hr,_,rfl,args 7 rfl⟩
     |c8 x y r=>exact⟨A.uf,_,_,_,rfl,rfl,B.t H4,jN (j:=8) rfl rfl,_,_,rfl,cal (by decide) B.a8 _ rfl rfl rfl rfl rfl hr,_,rfl,args 8 rfl⟩
     |c9 x r=>exact⟨A.uf,_,_,_,rfl,rfl,B.t H4,jN (j:=9) rfl rfl,_,_,rfl,cal (by decide) B.a9 _ rfl rfl rfl rfl rfl hr,_,rfl,args 9 rfl⟩
   . rw[show decide (((pl:Nat):Int)<((ns.length:Nat):Int))=false from aq (by omega)];have:ns.drop pl=[]:=eU (by omega);rw[this]at hcs;have hnil:=aea hcs;subst hnil;rw[ahg,eQ]at hdu;refine cY ⟨_,rfl,q _ an ?_⟩;rw[aB,hdu];rfl
section
variable{h:Heap}{k:Nat}{x q:Str}
def dI(K:Fg)(x:Str)(st:Stmt)(f:Addr):Prop:=PySem.W.nsIn K mainGlobals x=some (some (.ref f))/\∃fd,j5 K x x st f fd
def Ba(K:Fg)(C:Addr)(x q:Str)(st:Stmt):Prop:=∃f fd,adX K C x f/\j5 K x q st f fd
def GP(K:Fg)(x:Str)(C:Addr)(q:Str)(st:Stmt):Prop:=∃f fd,PySem.W.nsIn K mainGlobals x=some (some (.ref C))/\Mk K C f/\j5 K "__init__" q st f fd
def Bd(x q:Str)(st:Stmt)(ps:List Str):Prop:=∀(kV doc pm:Value)(an:Option Addr)(wU ct:Value)(us:List Value),us.length=ps.length->bindArgs (PySem.W.fnOf x q (sI st) (pC st) (aR st) .none kV doc pm an wU ct) ⟨us,[]⟩=pure (ps.zip us)
structure Cz(P:Program)(w:World)(K:Fg)(mg:Str->Option Value)(base h:Heap):Prop where
 i:K.In h
 g:h.Ns mainGlobals mg
theorem l0{M:List Value->Prop}(h:M []):∀us,us.length=0->M us
 |[],_=>h
theorem lc{M:List Value->Prop}(h:∀u t,t.length=n->M (u::t)):∀us,us.length=n+1->M us
 |_::_,e=>h _ _ (Nat.succ.inj e)
def b0(h:∀(kV doc pm:Value)(an:Option Addr)(wU ct:Value),bindArgs (PySem.W.fnOf x q (sI st) (pC st) (aR st) .none kV doc pm an wU ct) ⟨[],[]⟩=pure []):Bd x q st []:=λa b c d e f=>l0 (h a b c d e f)
def b1{p:Str}(h:∀(kV doc pm:Value)(an:Option Addr)(wU ct u:Value),bindArgs (PySem.W.fnOf x q (sI st) (pC st) (aR st) .none kV doc pm an wU ct) ⟨[u],[]⟩=pure [(p,u)]):Bd x q st [p]:=λa b c d e f=>lc λu=>l0 (h a b c d e f u)
def b2(h:∀(kV doc pm:Value)(an:Option Addr)(wU ct u1 u2:Value),bindArgs (PySem.W.fnOf x q (sI st) (pC st) (aR st) .none kV doc pm an wU ct) ⟨[u1,u2],[]⟩=pure [(p1,u1),(p2,u2)]):Bd x q st [p1,p2]:=λa b c d e f=>lc λu1=>lc λu2=>l0 (h a b c d e f u1 u2)
def b3(h:∀(kV doc pm:Value)(an:Option Addr)(wU ct u1 u2 u3:Value),bindArgs (PySem.W.fnOf x q (sI st) (pC st) (aR st) .none kV doc pm an wU ct) ⟨[u1,u2,u3],[]⟩=pure [(p1,u1),(p2,u2),(p3,u3)]):Bd x q st [p1,p2,p3]:=λa b c d e f=>lc λu1=>lc λu2=>lc λu3=>l0 (h a b c d e f u1 u2 u3)
def b4{p4:Str}(h:∀(kV doc pm:Value)(an:Option Addr)(wU ct u1 u2 u3 u4:Value),bindArgs (PySem.W.fnOf x q (sI st) (pC st) (aR st) .none kV doc pm an wU ct) ⟨[u1,u2,u3,u4],[]⟩=pure [(p1,u1),(p2,u2),(p3,u3),(p4,u4)]):Bd x q st [p1,p2,p3,p4]:=λa b c d e f=>lc λu1=>lc λu2=>lc λu3=>lc λu4=>l0 (h a b c d e f u1 u2 u3 u4)
def b5{p4 p5:Str}(h:∀(kV doc pm:Value)(an:Option Addr)(wU ct u1 u2 u3 u4 u5:Value),bindArgs (PySem.W.fnOf x q (sI st) (pC st) (aR st) .none kV doc pm an wU ct) ⟨[u1,u2,u3,u4,u5],[]⟩=pure [(p1,u1),(p2,u2),(p3,u3),(p4,u4),(p5,u5)]):Bd x q st [p1,p2,p3,p4,p5]:=λa b c d e f=>lc λu1=>lc λu2=>lc λu3=>lc λu4=>lc λu5=>l0 (h a b c d e f u1 u2 u3 u4 u5)
def fP(Z:Cz P w K mg base h)(F:dI K x st f)(ok:∀fd,j5 K x x st f fd->dR P w K mg base CX k f fd ps sp)(hb:Bd x x st ps:=by first|exact b1 (by intros;kernel_rfl)|exact b2 (by intros;kernel_rfl)|exact b3 (by intros;kernel_rfl)|exact b4 (by intros;kernel_rfl)|exact b5 (by intros;kernel_rfl)|exact b0 (by intros;kernel_rfl)):jQ P w K mg base x CX k ps sp:=
 let⟨e,fd,F⟩:=F
 ⟨f,fd,PySem.W.mg_of Z.i Z.g e,F.kp,F.JM hb,ok fd F⟩
def FP(Z:Cz P w K mg base h)(F:Ba K C x q st)(ok:∀f fd,j5 K x q st f fd->dR P w K mg base CX k f fd ps sp)(hb:Bd x q st ps:=by first|exact b1 (by intros;kernel_rfl)|exact b2 (by intros;kernel_rfl)|exact b3 (by intros;kernel_rfl)|exact b4 (by intros;kernel_rfl)|exact b5 (by intros;kernel_rfl)|exact b0 (by intros;kernel_rfl)):rC P w K mg base C x CX k ps sp:=
 let⟨f,fd,M,F⟩:=F
 ⟨f,fd,M,F.JM hb,ok f fd F⟩
def Mr(Z:Cz P w K mg base h)(F:GP K x C q st)(ok:∀f fd,j5 K "__init__" q st f fd->dR P w K mg base dW k f fd ps sp)(hb:Bd "__init__" q st ps:=by first|exact b1 (by intros;kernel_rfl)|exact b2 (by intros;kernel_rfl)|exact b3 (by intros;kernel_rfl)|exact b4 (by intros;kernel_rfl)|exact b5 (by intros;kernel_rfl)):DQ P w K mg base x C k ps sp:=
 let⟨f,fd,e,M,F⟩:=F
 ⟨f,fd,PySem.W.mg_of Z.i Z.g e,M,F.JM hb,ok f fd F⟩
def XR(Z:Cz P w K mg base h)(F:dI K x st f)(ok:∀fd,j5 K x x st f fd->dR P w K mg base dW k f fd ps sp)(hb:Bd x x st ps:=by first|exact b1 (by intros;kernel_rfl)|exact b2 (by intros;kernel_rfl)):UW P w K mg base k f sp:=
 let⟨_,fd,F⟩:=F
 ⟨F.kp,fd,ps,ok fd F,F.JM hb⟩
end
def abH:Bd "answers" "answers" Dg ["calls"]:=by intro _ _ _ _ _ _ us hl;match us,hl with|[_],_=>kernel_rfl
abbrev ad(C:Addr):Ad:=⟨38,95,197,355,376,397,C,632,688,928,76,77,78,298,826,834,1003⟩
noncomputable abbrev hp(P:Params):Fg:=My.hq.heap_1 P
def ajD:V->Value->Bool
 |.int i,.int j _=>decide (i=j)
 |.str x,.str y _=>decide (x=y)
 |.ref a,.ref b=>Nat.beq a b
 |_,_=>false
def agO:List V->List Value->Bool
 |[],[]=>true
 |x::xs,u::us=>ajD x u&&agO xs us
 |_,_=>false
def ah9(K:Fg)(a:Addr)(xs:List V):Bool:=match K.lookup a with
 |some ⟨.type n,_,.seq its _,_⟩=>decide (n="tuple")&&(decide (its.size<=1000)&&agO xs its.toList)
 |_=>false
def ajE:∀{x:V}{u:Value},ajD x u=true->jt x u:=by
 intro x u h;unfold ajD at h;split at h
 . exact⟨_,by rw[bL h]⟩
 . exact⟨_,by rw[bL h]⟩
 . rw[Nat.eq_of_beq_eq_true h];rfl
 . cases h
theorem adV:∀{xs:List V}{us:List Value},agO xs us=true->ie xs us
 |[],[],_=>.nil
 |[],_::_,h=>by cases h
 |_::_,[],h=>by cases h
 |_::_,_::_,h=>.cons (ajE (ik.mp h).1) (adV (ik.mp h).2)
def ZJ(e:ah9 K a xs=true)(H:Hp):Bx K H a xs:=by
 unfold ah9 at e;split at e
 . rename_i n d its m sl l;rw[bQ,bQ]at e;exact .inr ⟨_,its,m,l,by rw[bL e.1],rfl,cG (bL e.2.1) (by decide),adV e.2.2⟩
 . cases e
def ai5{x:Str}{i:Int}{t}{h:Heap}(KI:K.In h)(G:h.Ns mainGlobals mg)(e:PySem.W.nsIn K mainGlobals x=some (some (.int i t))):Gc mg x (.int i):=⟨_,PySem.W.mg_of KI G e,t,rfl⟩
def ai6{x:Str}{h:Heap}(KI:K.In h)(G:h.Ns mainGlobals mg)(e:PySem.W.nsIn K mainGlobals x=some (some (.ref a))):Gc mg x (.ref a):=⟨_,PySem.W.mg_of KI G e,rfl⟩
def amg:PySem.Challenge.rw_manyonline_s01_answers=PySem.Challenge.rw_manyonline_s01_answers/\My.hq.heap_1=My.hq.heap_1:=by
 k_fillS
 exact⟨rfl,rfl⟩
def txt(P:Params){h:Heap}(KI:(hq.heap_1 P).In h)(G:h.Ns mainGlobals mg)(C:Addr):Txt (hq.heap_1 P) mg (ad C):=by
 constructor<;>(try dsimp only[ad])<;>first|with_reducible exact ai5 KI G (by k_is)|with_reducible exact ai6 KI G (by k_is)|with_reducible exact PySem.W.mg_none_of KI G (by k_is)|with_reducible exact⟨by k_is,by k_is,by k_is,by k_is⟩|exact show PySem.W.findIn _ _ _=_ by k_is|exact ZJ (by kernel_rfl)
def cH{x:Str}{osl:Array (Option Value)}{kV doc:Value}(g:PySem.W.nsIn K mainGlobals x=some (some (.ref f)):=by k_is)(l:K.lookup f=some ⟨oc,od,.func (PySem.W.fnOf x x (sI st) (pC st) (aR st) .none kV doc pm an wU ct),osl⟩:=by k_is)(c:PySem.W.codeIn K wU x=true:=by k_is)(k:PySem.W.keepIn K (.ref f)=true:=by k_is):dI K x st f:=⟨g,_,ab1 l c k⟩
def yt{x q:Str}{osl:Array (Option Value)}{kV doc:Value}(a:PySem.W.findIn K (.ref C) x=some (some (.ref f)):=by k_is)(n:PySem.W.isFn K (.ref f)=true:=by k_is)(l:K.lookup f=some ⟨oc,od,.func (PySem.W.fnOf x q (sI st) (pC st) (aR st) .none kV doc pm an wU ct),osl⟩:=by k_is)(c:PySem.W.codeIn K wU q=true:=by k_is)(k:PySem.W.keepIn K (.ref f)=true:=by k_is):Ba K C x q st:=⟨f,_,⟨a,n,k⟩,ab1 l c k⟩
def Eb{y q:Str}{osl:Array (Option Value)}{kV doc:Value}(g:PySem.W.nsIn K mainGlobals y=some (some (.ref C)):=by k_is)(m:PySem.W.makesIn K C=true:=by k_is)(a:PySem.W.findIn K (.ref C) "__init__"=some (some (.ref f)):=by k_is)(n:PySem.W.isFn K (.ref f)=true:=by k_is)(kc:PySem.W.keepIn K (.ref C)=true:=by k_is)(l:K.lookup f=some ⟨oc,od,.func (PySem.W.fnOf "__init__" q (sI st) (pC st) (aR st) .none kV doc pm an wU ct),osl⟩:=by k_is)(c:PySem.W.codeIn K wU q=true:=by k_is)(k:PySem.W.keepIn K (.ref f)=true:=by k_is):GP K y C q st:=⟨f,_,g,⟨m,a,n,kc⟩,ab1 l c k⟩
section
open hq
variable(P:Params)
def Wj:dI (heap_1 P) "answers" Dg 1010:=cH
end
def tkd(P:Params)(C:Addr):∀H,Bx (hp P) H (ad C).lz [.ref 762,.ref 776,.ref 783,.ref 790,.ref 797,.ref 804,.ref 811,.ref 818,.ref 825,.ref 804]:=ZJ (by kernel_rfl)
def tcl(P:Params)(C:Addr):∀H,Bx (hp P) H (ad C).uf [.ref 939,.ref 946,.ref 953,.ref 960,.ref 967,.ref 974,.ref 981,.ref 988,.ref 995,.ref 1002]:=ZJ (by kernel_rfl)
def adB(K:Fg):List Value->List (List Str)->Bool
 |[],[]=>true
 |.ref a::us,ss::r=>ah9 K a (ss.map V.str)&&adB K us r
 |_,_=>false
theorem adC{K:Fg}:∀{us:List Value} {r:List (List Str)},adB K us r=true->∃as:List Addr,us=as.map Value.ref/\Paired (λa (ss:List Str)=>∀H,Bx K H a (ss.map V.str)) as r
 |[],[],_=>⟨[],rfl,.nil⟩
 |.ref a::us,ss::r,h=>by
  have h':ah9 K a (ss.map V.str)=true/\adB K us r=true:=ik.mp h;obtain⟨as,rfl,p⟩:=adC h'.2;exact⟨a::as,rfl,.cons (ZJ h'.1) p⟩
def aky(K:Fg)(a:Addr):Bool:=match K.lookup a with
 |some ⟨.type n,_,.seq its _,_⟩=>decide (n="tuple")&&(decide (its.size<=1000)&&adB K its.toList ae1)
 |_=>false
theorem Xg:∀as:List Addr,ie (as.map V.ref) (as.map Value.ref)
 |[]=>.nil
 |_::as=>.cons rfl (Xg as)
def ai3(e:aky K A.zJ=true):aiE K A:=by
 unfold aky at e;split at e
 . rename_i n d its m sl l;rw[bQ,bQ]at e;obtain⟨as,h1,h2⟩:=adC e.2.2;refine⟨as,λH=>.inr ⟨_,its,m,l,by rw[bL e.1],rfl,cG (bL e.2.1) (by decide),?_⟩,h2⟩;rw[h1];exact Xg as
 . cases e
def fxr(P:Params)(C:Addr):aiE (hp P) (ad C):=ai3 (by kernel_rfl)
def akp{h:Heap}(Z:Cz P w (hq.heap_1 w.params) mg base h)(T:Txt (hq.heap_1 w.params) mg (ad C))(W:Wb mg (ad C) base):
 ∀fd,j5 (hq.heap_1 w.params) "answers" "answers" Dg 1010 fd->dR P w (hq.heap_1 w.params) mg base dW 17 1010 fd ["calls"] (agp (hq.heap_1 w.params)):=by
 have R:=fxr w.params C;have dH:=fP Z cH λ_ F=>Ol F T;have mF:=Mr Z (Eb (y:="Header")) λ_ _ F=>Tg F T;have zB:=fP Z cH λ_ F=>QT F T dH mF;have yf:=fP Z cH λ_ F=>Om F T R zB;have Dv:=Mr Z (Eb (y:="Table")) λ_ _ F=>Vx F T yf;have ji:=Mr Z (Eb (y:="Event")) λ_ _ F=>Vv F T;have ql:=fP Z cH λ_ F=>QX F T ji;have vK:=Mr Z (Eb (y:="Line")) λ_ _ F=>Yx F T Dv ql;have Gx:=Mr Z (Eb (y:="Desk")) λ_ _ F=>Yw F T vK;have bD:=FP Z (yt (C:=928)) λ_ _ F=>Jw F T;have dO:=fP Z cH λ_ F=>KC F T.Ri;have eY:=fP Z cH λ_ F=>VR F T dO;have Dw:=fP Z cH λ_ F=>Vy F T vK dO eY;have Xh:=XR Z cH λ_ F=>Vz F T Dw;have j9:=FP Z (yt (C:=928)) λ_ _ F=>Oi F T bD;have jx:=fP Z cH λ_ F=>KQ F T;have GF:=fP Z cH λ_ F=>YS F T jx;have vX:=fP Z cH λ_ F=>KH F T;have du:=fP Z cH λ_ F=>KN F;have dM:=fP Z cH λ_ F=>Ax F T du;have Du:=Mr Z (Eb (y:="Frame")) λ_ _ F=>Vw F T;have dw:=FP Z (yt (C:=38)) λ_ _ F=>acn F T;have uZ:=Mr Z (Eb (y:="BlockReader")) λ_ _ F=>Jv F T;have kW:=FP Z (yt (C:=632)) λ_ _ F=>aeD F T;have fB:=FP Z (yt (C:=632)) λ_ _ F=>ahD F T W kW;have m5:=FP Z (yt (C:=632)) λ_ _ F=>YX F T fB;have dG:=FP Z (yt (C:=632)) λ_ _ F=>Tw F T W m5;have jj:=fP Z cH λ_ F=>JC F T;have lL:=FP Z (yt (C:=355)) λ_ _ F=>Tn F T jj;have sW:=FP Z (yt (C:=355)) λ_ _ F=>QQ F T lL;have zG:=fP Z cH λ_ F=>Q3 F T W dG sW;have vW:=FP Z (yt (C:=355)) λ_ _ F=>YM F T;have qj:=fP Z cH λ_ F=>QW F T W vW;have m6:=FP Z (yt (C:=632)) λ_ _ F=>YZ F T W fB dG;have uo:=fP Z cH λ_ F=>Mz F T W dG m6 qj mF;have u0:=FP Z (yt (C:=355)) λ_ _ F=>VM F T jj lL;have yl:=fP Z cH λ_ F=>Oz F T dG qj uo u0;have RK:=fP Z cH λ_ F=>aeE F T W uZ kW fB zG yl;have lM:=fP Z cH λ_ F=>Ht F T jj;have dC:=fP Z cH λ_ F=>Tp F T dO eY;have sY:=fP Z cH λ_ F=>Gq F T;have yg:=fP Z cH λ_ F=>Oq F T sY;have oh:=fP Z cH λ_ F=>Mw F T;have J4:=fP Z cH λ_ F=>aa0 F T yg oh dH;have lA:=fP Z cH λ_ F=>QR F T J4;have o7:=fP Z cH λ_ F=>Oo F T ji;have m7:=fP Z cH λ_ F=>KR F T lM;have vh:=fP Z cH λ_ F=>ahF F T m7;have uD:=fP Z cH λ_ F=>Hr F T dC lA o7 vh;have uC:=fP Z cH λ_ F=>Hq F T;have uE:=fP Z cH λ_ F=>Hs F T oh dH;have rP:=fP Z cH λ_ F=>Ei F T uE dH;have rQ:=fP Z cH λ_ F=>Ej F T uC rP lA;have Bv:=Mr Z (Eb (y:="Stream")) λ_ _ F=>Th F T;have zA:=fP Z cH λ_ F=>QS F T dC rQ Bv o7 vh;have GC:=fP Z cH λ_ F=>YK F T W RK lM uD dC zA;have qi:=fP Z cH λ_ F=>QM F T GC;have u9:=fP Z cH λ_ F=>Jx F T dw qi;have m8:=fP Z cH λ_ F=>KY F T dw;have um:=fP Z cH λ_ F=>acp F T;have uh:=fP Z cH λ_ F=>Mv F T dO eY;have Dy:=fP Z cH λ_ F=>VF F T ji;have Z1:=XR Z cH λ_ F=>YH F T m8 um uh dC dw Dy vh;have Dt:=Mr Z (Eb (y:="Block")) λ_ _ F=>Vu F T;have RG:=XR Z cH λ_ F=>QV F T m8 dw dM Dt qi;have Qm:=XR Z cH λ_ F=>Ov F T dC dM;have Xk:=XR Z cH λ_ F=>VN F T um du ji vh;have rR:=fP Z cH λ_ F=>Ek F T;have zH:=fP Z cH λ_ F=>Q4 F T rR;have yj:=fP Z cH λ_ F=>Ox F T du zH;have Qn:=XR Z cH λ_ F=>Ow F T dw yj eY;have U5:=XR Z cH λ_ F=>Tu F T;have Z2:=XR Z cH λ_ F=>YW F T dw eY;have ZS:=XR Z cH λ_ F=>Yy F T du ji vh;have xu:=fP Z cH λ_ F=>Tq F T;have U6:=XR Z cH λ_ F=>Tz F T um dM xu dC;have KD:aih P w (hq.heap_1 w.params) mg base (ad C) 762 776 783 790 797 804 811 818 825:=⟨tkd _ C,Z1,RG,Qm,Xk,Qn,U5,Z2,ZS,U6⟩;have DG:=fP Z cH λ_ F=>VJ F T dw u9 KD;have vY:=fP Z cH λ_ F=>KJ F T du dM Du DG;have vL:=fP Z cH λ_ F=>YL F T dO eY;have Gy:=fP Z cH λ_ F=>Yz F T vX vY vL;have Dz:=fP Z cH λ_ F=>VH F T GF Gy;have ZX:=XR Z cH λ_ F=>YD F T j9 Dz;have qH:=fP Z cH λ_ F=>aa1 F T;have DP:=fP Z cH λ_ F=>VV F T qH;have Z0:=XR Z cH λ_ F=>YG F T bD DP;have vf:=fP Z cH λ_ F=>Jz F T;have DK:=fP Z cH λ_ F=>VL F T ql m7 vf;have Xi:=XR Z cH λ_ F=>VB F T DK;have Bw:=fP Z cH λ_ F=>Tr F T qH;have U4:=XR Z cH λ_ F=>Tj F T bD Bw;have Gz:=fP Z cH λ_ F=>YJ F T qH;have ZW:=XR Z cH λ_ F=>YC F T bD Gz;have zE:=fP Z cH λ_ F=>QZ F T du mF;have GD:=fP Z cH λ_ F=>YQ F T dH;have sX:=fP Z cH λ_ F=>Gp F T dH GD lA;have vd:=fP Z cH λ_ F=>Jy F T;have wO:=fP Z cH λ_ F=>Mx F T;have nj:=fP Z cH λ_ F=>Ou F T;have xx:=fP Z cH λ_ F=>Tv F T nj;have yh:=fP Z cH λ_ F=>Ot F T vd wO nj xx;have aby:=fP Z cH λ_ F=>ahE F T yh;have J3:=fP Z cH λ_ F=>aaZ F T aby;have vM:=fP Z cH λ_ F=>YT F T;have DN:=fP Z cH λ_ F=>VP F T vM eY;have ug:=fP Z cH λ_ F=>VG F T dC;have ye:=fP Z cH λ_ F=>Oj F T zE sX jx J3 DN ug;have U3:=XR Z cH λ_ F=>Ti F T bD j9 ye;have vg:=fP Z cH λ_ F=>JB F T vM eY;have GJ:=fP Z cH λ_ F=>Y0 F T jx vg ug;have ZZ:=XR Z cH λ_ F=>YF F T bD j9 GJ;have zF:=fP Z cH λ_ F=>Q0 F T dC;have Xj:=XR Z cH λ_ F=>VD F T bD zF;have Np:=fP Z cH λ_ F=>ack F T vL;have ZV:=XR Z cH λ_ F=>YB F T bD Np;have B:Byc P w (hq.heap_1 w.params) mg base (ad C) 939 946 953 960 967 974 981 988 995 1002:=⟨tcl _ C,Xh,ZX,Z0,Xi,U4,ZW,U3,ZZ,Xj,ZV⟩;exact λfd F=>acj F T Gx bD B
end My
namespace My
open PySem PySem.W PyProof.Rows L2
def adq {h h':Heap} {a:Addr} {m:Str->Option Value} (x:h.Ns a m) (hk:∀b o,h.get? b=some o->(∀v n,o.data≠.seq v n)->h'.get? b=some o):h'.Ns a m:=
 let⟨o,es,ep,ho,hd,r⟩:=x
 ⟨o,es,ep,hk a o ho (λv n z=>by rw[hd]at z;cases z),hd,r⟩
def aeO {h h':Heap} {bm tl:List Value} (T:OwnTailQ h bm tl) (hk:∀b o,h.get? b=some o->(∀v n,o.data≠.seq v n)->h'.get? b=some o):OwnTailQ h' bm tl:=by
 induction T with
 |base=>exact .base
 |own e1 e2 e3 _ ih=>exact .own (hk _ _ e1 (λv n z=>by cases z)) (adq e2 hk) e3 ih
def af0 {x:Str} {C:Addr} {bm:List Value} {newId:String} {mg:Str->Option Value} {h h':Heap} (O:OwnClsQ x C bm newId mg h) (hk:∀b o,h.get? b=some o->(∀v n,o.data≠.seq v n)->h'.get? b=some o):OwnClsQ x C bm newId mg h':=by
 obtain⟨z,b,N,nm,q,bs,hdct,sn,sub,ab,col,dd,k0,k1,k2,k3,k5,mN,e1,e2,e3,T⟩:=O;exact⟨z,b,N,nm,q,bs,hdct,sn,sub,ab,col,dd,k0,k1,k2,k3,k5,mN,hk _ _ e1 (λv n z=>by cases z),adq e2 hk,e3,aeO T hk⟩
def af1:specOf qv "WrongBlock"=some ("ValueError.__new__",[.type "ValueError",.type "Exception",.type "BaseException",.type "object"]):=by kernel_rfl
def ai9:R.Holds:=by
 refine hq (agQ (k:=17) (K:=My.hq.heap_1) said (by kernel_rfl) ⟨rfl,by decide,by decide⟩ (λw h Y=>kIn_of Y) af1 ?_);intro w mg fa h KI G hm hC;obtain⟨C,O⟩:=hC;have hfa:fa=1010:=by
  have e:=mg_of KI G (Wj w.params).1;have e2:mg (Str.ofString "answers")=some (.ref fa):=hm;rw[e]at e2
  cases e2;rfl
 subst hfa;obtain⟨fd,F⟩:=(Wj w.params).2;refine⟨fd,?_,λbase KB GB hk=>?_⟩
 . intro s u;obtain⟨oc,od,kV,doc,pm,an,wU,ct,osl,rfl,lk,hcd⟩:=F.ex;exact .of_eq (abH kV doc pm an wU ct [u] rfl)
 . exact akp ⟨KI,G⟩ (txt w.params KI G C) ⟨"ValueError",_,_,_,⟨PySem.F.excBase_ValueError⟩,af0 O hk,by decide⟩ fd F
end My
theorem PySem.Challenge.cw_manyonline_s01_answers_holds : PySem.Challenge.rw_manyonline_s01_answers.Holds :=
 My.ai9
