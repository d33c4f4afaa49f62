import Derived.Test.YtlckdgjfniglfaaGreatDoorM5
set_option linter.unusedVariables false
set_option maxHeartbeats 8000000
set_option maxRecDepth 100000
namespace Go.Proofs.YtlckdgjfniglfaaGreatDoor
open Proofs.Tryz
open Go.RowKit Go.Maps
theorem But.of_gb {b:Nat} {w w':World} (h:w.grownBy w' (some b)):But b w w':=⟨h.os,h.tape,h.output,h.size,fun k hk hne=>h.block k hk (fun e=>hne (Option.some.inj e))⟩
theorem row2 (w:World) (x y:Value) (t:TypeId):∀ j u,[x,y][j]?=some u->(w.alloc (.cells #[x,y] t)).cell? ((⟨w.heap.size,0,none⟩:Addr).add j)=some u:=by
 intro j u h;rw [adr_add,Nat.zero_add];exact blk_new w [x,y] t j u h
theorem c130n (c:Int) (s fm:ByteArray) (w:World) (hf:fmR c s=fm) (hs:s.size<=1048700):Calls prog 130 #[.agg #[.int .i64 c,.string s]] w fun e w'=>e=.returned (.string fm)/\Below w.heap.size w w':=by
 subst hf;exact c130 c s w hs
theorem c40n (s:ByteArray) (n:Int) (sm:ByteArray) (w:World) (hm:sumS s n=sm) (hs:s.size<=1048700):Calls prog 40 #[.string s,.int .i64 n] w fun e w'=>e=.returned (.string sm)/\Below w.heap.size w w':=by
 subst hm;exact c40 s n w hs
theorem vr_size {c:Int} {t:ByteArray} (h:vr c t.data.toList=true):t.size<=300:=by
 rcases Nat.lt_or_ge 300 t.data.toList.length with h1 | h1
 · rw [vr_long h1] at h;cases h
 · simpa using h1
theorem fm_size (c:Int) (t:ByteArray):(fmR c t).size<=t.size+2:=by
 have e:t.data.toList.length=t.size:=Array.length_toList;unfold fmR;rw [ofL_size];unfold formR;split
 · simp only [List.length_cons];omega
 · simp only [List.length_nil];omega
theorem ask_ok {ls:List L4} (h:LksOk ls):∀ r∈askR ls,vr r.1 r.2.data.toList=true:=by
 have h2:∀ x∈ls,LkOk x:=fun x hx=>by
  obtain ⟨i,hi,e⟩:=List.getElem_of_mem hx;have:=h.2 i hi
  rwa [show ls.getD i l4z=x by simp [List.getD,List.getElem?_eq_getElem hi,e]] at this
 clear h
 induction ls with
 | nil=>intro r hr;cases hr
 | cons x q ih=>
  intro r hr;have ihq:=ih (fun y hy=>h2 y (List.mem_cons_of_mem _ hy));unfold askR at hr
  cases hx:x.has with
  | true=>rw [hx] at hr;exact ihq r hr
  | false=>
   rw [hx] at hr;rcases List.mem_cons.1 hr with rfl | hr
   · rcases (h2 x (List.mem_cons_self ..)).2 with ⟨k,_⟩ | ⟨_,k⟩
     · rw [hx] at k;cases k
     · exact k
   · exact ihq r hr
theorem fm_take {ls:List L4} {c:Int} {t:ByteArray} {k:Nat} (h:k<(askR ls).length+1):(fmL ls c t).take (k+1)=(fmL ls c t).take k++[fmR ((askR ls++[(c,t)]).getD k (0,ByteArray.empty)).1 ((askR ls++[(c,t)]).getD k (0,ByteArray.empty)).2]:=by
 have hk:k<(fmL ls c t).length:=by simp [fmL];omega
 rw [List.take_add_one,List.getElem?_eq_getElem hk];have hk2:k<(askR ls++[(c,t)]).length:=so_;simp only [fmL,List.getElem_map,Option.toList_some];rw [show (askR ls++[(c,t)]).getD k (0,ByteArray.empty)=(askR ls++[(c,t)])[k] by simp only [List.getD,List.getElem?_eq_getElem hk2,Option.getD_some]]
theorem res_cells {E:World} {base:Nat} {a4:Option Addr} {c904 n:Nat} {l:List (Int×ByteArray)} (h:E.ownsRow base 45 2 (.slice a4 n c904) l.length (resC l)) (hn:l≠[]):∃ g,a4=some ⟨g,0,none⟩/\(g<E.heap.size/\base<=g)/\∀ k,k<l.length->E.cell? ⟨g,k*2,none⟩=some (.int .i64 (l.getD k (0,ByteArray.empty)).1)/\E.cell? ⟨g,k*2+1,none⟩=some (.string (l.getD k (0,ByteArray.empty)).2):=by
 have hrow:=h;have hres:∀ (l:List (Int×ByteArray)) (k:Nat),k<l.length->(resC l)[k*2]?=some (.int .i64 (l.getD k (0,ByteArray.empty)).1)/\(resC l)[k*2+1]?=some (.string (l.getD k (0,ByteArray.empty)).2):=by
  intro l
  induction l with
  | nil=>intro k hk;exact absurd hk (Nat.not_lt_zero _)
  | cons x r ih=>
   intro k hk
   cases k with
   | zero=>exact ⟨rfl,rfl⟩
   | succ k=>
    have:=ih k (by simpa using hk);have e1:(k+1)*2=k*2+1+1:=om_;rw [e1];exact this
 rcases h.2 with ⟨hv,h0⟩ | ⟨g,cap,cur,hv,hg,hh,_⟩
 · exact absurd (List.length_eq_zero_iff.1 h0) hn
 · simp only [Value.slice.injEq] at hv
   obtain ⟨rfl,rfl,rfl⟩:=hv;refine ⟨g,rfl,⟨(Array.getElem?_eq_some_iff.1 hh).1,hg⟩,fun k hk=>?_⟩;rw [hrow.cellAt (k*2) om_,hrow.cellAt (k*2+1) om_];exact hres l k hk
def IsFr (W:Int) (ts:List ByteArray) (fs:List ByteArray) (w w':World) (e:Ending):Prop:=
 (∃ bF f ts',e=.returned (.tuple #[.map (some bF),.bool true])/\w.heap.size<=bF/\w'.ownsMap prog 9 tokR bF f.length (mapD f)/\Fr W (ts.map (gT W)) f ts'/\putAll W fs (ts,true)=(ts',true))\/
 (e=.returned (.tuple #[.map none,.bool false])/\(putAll W fs (ts,true)).2=false)
theorem c91 (B H bT bR bP:Nat) (W:Int) (ts:List ByteArray) (rs:List R3) (rv:List Value) (ls:List L4) (c:Int) (t:ByteArray) (a:Option Addr) (cap:Nat) (w:World) (hSh:Sh B H bT bR bP W (ts.map (gT W)) rs rv w) (hW:1<=W/\W<=8) (hA:AscT W ts) (hok:LksOk ls) (hv:vr c t.data.toList=true) (hl:ls.length<=1048576) (hat:LksAt w a ls):
 Calls prog 91 #[.pointer (some ⟨H,0,none⟩),.slice a ls.length cap,.agg #[.int .i64 c,.string t]] w fun e w'=>IsFr W ts (fmL ls c t) w w' e/\Below w.heap.size w w':=by
 obtain ⟨i0,hi,hz0,hz1,hz2⟩:=info_parts' info45;obtain ⟨pl,hCC,hR⟩:=hSh;obtain ⟨es,ck,hTw,hTF,hTs,hTD⟩:=hCC.tx;have hbT:bT<w.heap.size:=(Array.getElem?_eq_some_iff.1 hTw).1;have HLT:Hid (∀ (u:World) (k:ByteArray),k.size<=maxLen->u.heap[bT]?=some (.map es ck)->(Instr.lookup 84 (.map (some bT)) (.string k) true).run prog u=.ok (.tuple #[(getK (ts.map (gT W)) k).getD (.agg #[.string ⟨#[]⟩,.int .i64 0,.string ⟨#[]⟩]),.bool (getK (ts.map (gT W)) k).isSome]) u):=fun u k hk hu=>
  look_ok_S (n:=(ts.map (gT W)).length) ⟨es,ck,hu,hTF,hTs,hTD⟩ underlying84 kr_ hk
 have HVR:Hid (∀ k,k<(askR ls++[(c,t)]).length->vr ((askR ls++[(c,t)]).getD k (0,ByteArray.empty)).1 ((askR ls++[(c,t)]).getD k (0,ByteArray.empty)).2.data.toList=true):=fun k hk=>by
  have e:(askR ls++[(c,t)]).getD k (0,ByteArray.empty)=(askR ls++[(c,t)])[k]:=by simp only [List.getD,List.getElem?_eq_getElem hk,Option.getD_some]
  rw [e];rcases List.mem_append.1 (List.getElem_mem hk) with h | h
  · exact ask_ok hok _ h
  · rw [List.mem_singleton.1 h];exact hv
 have HAS:=hI_ hA;have HWD:=hI_ hW;have hHlt:=hCC.lt;have hll:=hok.1;have hml:=askR_len ls;have hmm:=@run_makeMap prog;have HM1:Hid ((askR ls).length+1<=maxLen):=by show _<=_;unfold maxLen;omega
 have HM2:Hid (((askR ls).length+1)*24<=140737488355328):=by show _<=_;omega
 have s0:(w.alloc (.cells #[.int .i64 c,.string t] 45)).heap.size=w.heap.size+1:=sm_;have s1:((w.alloc (.cells #[.int .i64 c,.string t] 45)).alloc (.map #[] 0)).heap.size=w.heap.size+2:=sm_;have BU:Below w.heap.size w ((w.alloc (.cells #[.int .i64 c,.string t] 45)).alloc (.map #[] 0)):=bA_.alloc sm_ _;have HLK:=hI_ (lks_below hat BU);have M0:=World.ownsMap_made (w.alloc (.cells #[.int .i64 c,.string t] 45)) prog 9 tokR;rw [s0] at M0;have MU:Hid (((w.alloc (.cells #[.int .i64 c,.string t] 45)).alloc (.map #[] 0)).ownsMap prog 9 tokR (w.heap.size+1) ([]:List (ByteArray×Value)).length (mapD [])):=M0;have e0:((w.alloc (.cells #[.int .i64 c,.string t] 45)).alloc (.map #[] 0)).cell? ⟨w.heap.size,0,none⟩=some (.int .i64 c):=by simp [go_sem]
 have e1:((w.alloc (.cells #[.int .i64 c,.string t] 45)).alloc (.map #[] 0)).cell? ⟨w.heap.size,1,none⟩=some (.string t):=by simp [go_sem]
 clear hat M0 hA hW hok hv hTF hTs hTD;go_enter func91,ntmps91
 go_wp2_with fail
 rename_i K0 hK0;generalize ((w.alloc (.cells #[.int .i64 c,.string t] 45)).alloc (.map #[] 0))=U1 at*;have TAIL:∀ (va:Value) (q:Nat) (a4:Option Addr) (c904:Nat) (E:World),Below U1.heap.size U1 E->Hid (E.ownsRow U1.heap.size 45 2 (.slice a4 ((askR ls).length+1) c904) ((askR ls).length+1) (resC (askR ls)++[.int .i64 c,.string t]))->K0 { tmps:=#[.pointer (some ⟨H,0,none⟩),.slice a ls.length cap,.agg #[.int .i64 c,.string t],undef,undef,.pointer (some ⟨w.heap.size,0,none⟩),.map none,.bool false,.map (some (w.heap.size+1)),undef,undef,undef,undef,undef,undef,.map (some (w.heap.size+1)),.slice a ls.length cap,va,.agg #[.int .i64 c,.string t],.slice (some ⟨q,0,none⟩) 1 1,.slice a4 ((askR ls).length+1) c904,.int .i64 ((askR ls).length+1:Nat),.int .i64 0,undef,undef,undef,undef,undef,undef,undef,undef,undef,undef,undef,undef,undef,undef,undef,undef,undef,undef,undef,undef,undef,undef,undef,undef,undef,undef,undef,undef,undef,undef,undef,undef,undef,undef,undef,undef,undef,undef,undef,undef,undef,undef,undef,undef],defers:=[] } E:=by
  intro va q a4 c904 E hE O4;have hEs:=hE.size;obtain ⟨g,rfl,hgE,hgc⟩:=res_cells (l:=(askR ls++[(c,t)])) (by rw [resC_snoc];simpa using O4.out) sm_;have HGC:=hI_ hgc;have BWE:Below w.heap.size w E:=BU.trans (hE.mono om_);have CE:=hCC.below BWE;have hE0:=CE.blk 0 _ rfl;have hE1:=CE.blk 1 _ rfl;have hTE:=(BWE.block bT hbT).trans hTw;have ME:=hI_ (mp_below MU.out hE om_);have hHZ:H<w.heap.size:=hHlt;have hgN:g≠w.heap.size+1:=om_;clear hgc O4 CE;refine hK0 _ _ ?_;clear hK0
  go_wp2_with fail
  go_loopw [22] (fun i wr=>∃ (k:Nat) (f:List (ByteArray×Value)) (tk:List ByteArray),k<=(askR ls).length+1/\i=.int .i64 k/\Hid (wr.ownsMap prog 9 tokR (w.heap.size+1) f.length (mapD f))/\Hid (Fr W (ts.map (gT W)) f tk)/\Hid (putAll W ((fmL ls c t).take k) (ts,true)=(tk,true))/\f.length<=k/\But (w.heap.size+1) E wr) (fun i _=>(askR ls).length+1 - (Go.RowKit.intOf i).toNat)
  case atStart=>exact ⟨0,[],ts,Nat.zero_le _,rfl,ME,Fr.start HAS.out,rfl,Nat.le_refl _,But.refl _ _⟩
  case round=>
   obtain ⟨k,f,tk,hk,rfl,HMr,HFr,HPu,hfk,BTr⟩:=hrel;have szr:=BTr.size;by_cases hlt:k<(askR ls).length+1
   · have gk:=HGC.out k (by simpa using hlt)
     have g0:=(BTr.cell (p:=⟨g,k*2,none⟩) hgE.1 hgN).trans gk.1;have g1:=(BTr.cell (p:=⟨g,k*2+1,none⟩) hgE.1 hgN).trans gk.2;have HTK:=hI_ (fm_take (c:=c) (t:=t) hlt);have hvr:=HVR.out k (by simpa using hlt);generalize ((askR ls++[(c,t)])).getD k (0,ByteArray.empty)=r at*;clear gk;obtain ⟨fm,hfm⟩:∃ fm,fmR r.1 r.2=fm:=⟨_,rfl⟩;have HFM:=hI_ hfm;have HVF:Hid (hV fm=.agg #[.string fm,.int .i64 r.1,.string r.2]):=hfm▸hV_fm hvr;have hr3:=vr_size hvr;have hr7:r.2.size<=1048700:=om_;have hfm7:fm.size<=1048700:=by rw [<- hfm];have:=fm_size r.1 r.2;omega
     rw [hfm] at HTK;obtain ⟨sm,hsm⟩:∃ sm,sumS fm W=sm:=⟨_,rfl⟩;have HSM:=hI_ hsm;have HSZ:Hid (sm.size<=maxLen):=by show _<=_;rw [<- hsm,sumS_size HWD.out];have:=HWD.out;unfold maxLen;omega
     clear hfm hsm;have d0:(wr.alloc (.cells #[.int .i64 r.1,.string r.2] 45)).cell? ⟨wr.heap.size,0,none⟩=some (.int .i64 r.1):=blk_new wr [.int .i64 r.1,.string r.2] 45 0 _ rfl;have d1:(wr.alloc (.cells #[.int .i64 r.1,.string r.2] 45)).cell? ⟨wr.heap.size,1,none⟩=some (.string r.2):=blk_new wr [.int .i64 r.1,.string r.2] 45 1 _ rfl;have sz0:(wr.alloc (.cells #[.int .i64 r.1,.string r.2] 45)).heap.size=wr.heap.size+1:=sm_;have BX0:Below wr.heap.size wr (wr.alloc (.cells #[.int .i64 r.1,.string r.2] 45)):=bA_
     go_wp2_with fail
     generalize (wr.alloc (.cells #[.int .i64 r.1,.string r.2] 45))=x0 at*;clear g0 g1;refine wp_region_held_drew (S:=(fun u=>u.cell? ⟨wr.heap.size,0,none⟩=some (.int .i64 r.1)/\u.cell? ⟨wr.heap.size,1,none⟩=some (.string r.2))) kr_ ?_ fun hHeld=>?_
     · exact ⟨d0,d1⟩
     refine tq 0 hHeld ?_
     try simp only [qq]
     refine tq 2 hHeld ?_
     try simp only [qq]
     refine wpAnyH_ready (rs:=[1,4]) kr_ sm_ ?_;refine AllReadyH.cons (o:=⟨some 27,.call ⟨.value (.func 130),#[.tmp 26],#[45]⟩,9,_,_,none⟩) rfl (fun K hK=>?_) (AllReadyH.cons (o:=⟨some 11,.alloc 92,0,_,_,none⟩) rfl (fun K hK=>?_) AllReadyH.nil)
     · go_simp
       refine (c130n r.1 r.2 fm _ HFM.out hr7).mono ?_;rintro e x1 ⟨rfl,hbx1⟩
       go_wp2_with fail
       have b1:Below (wr.heap.size+1) x0 x1:=((Below.refl _ _).drew).trans (hbx1.mono (by show wr.heap.size+1<=x0.heap.size;omega));have sx1:=b1.size;have d0x1:=(b1.cell (p:=⟨wr.heap.size,0,none⟩) (by show wr.heap.size<wr.heap.size+1;omega)).trans d0;have d1x1:=(b1.cell (p:=⟨wr.heap.size,1,none⟩) (by show wr.heap.size<wr.heap.size+1;omega)).trans d1;clear hHeld;refine hK.out _ _ ⟨d0x1,d1x1⟩ fun hHeld=>?_;clear hK K
       try simp only [qq]
       refine tq 3 hHeld ?_
       try simp only [qq]
       refine rq 4 fun K hK=>?_;go_simp;have bX:Below (wr.heap.size+1) x1 (x1.alloc (.cells #[.string ⟨#[]⟩,.int .i64 0,.string ⟨#[]⟩] 92)):=(Below.refl _ _).alloc om_ _;have BX:=b1.trans bX;have ZX:Hid (BlkAt (x1.alloc (.cells #[.string ⟨#[]⟩,.int .i64 0,.string ⟨#[]⟩] 92)) x1.heap.size [.string ⟨#[]⟩,.int .i64 0,.string ⟨#[]⟩]):=hI_ (blk_new x1 [.string ⟨#[]⟩,.int .i64 0,.string ⟨#[]⟩] 92);have FX:Hid (OpnAt (x1.alloc (.cells #[.string ⟨#[]⟩,.int .i64 0,.string ⟨#[]⟩] 92)) x1.heap.size):=hI_ (opn_new x1 #[.string ⟨#[]⟩,.int .i64 0,.string ⟨#[]⟩] 92);have sX:(x1.alloc (.cells #[.string ⟨#[]⟩,.int .i64 0,.string ⟨#[]⟩] 92)).heap.size=x1.heap.size+1:=sm_;have d0x2:=(BX.cell (p:=⟨wr.heap.size,0,none⟩) (by show wr.heap.size<wr.heap.size+1;omega)).trans d0;have d1x2:=(BX.cell (p:=⟨wr.heap.size,1,none⟩) (by show wr.heap.size<wr.heap.size+1;omega)).trans d1;clear hHeld;refine hK.out _ _ ⟨d0x2,d1x2⟩ fun hHeld=>?_;clear hK K
       try simp only [qq]
       clear bX;generalize (x1.alloc (.cells #[.string ⟨#[]⟩,.int .i64 0,.string ⟨#[]⟩] 92))=x2 at*;refine rq 5 fun K hK=>?_;refine step_store_blk rfl 92 (.tmp 11) (.tmp 29) rfl x1.heap.size 0 rfl [.string fm,.int .i64 r.1,.string r.2] rfl (blk_some ZX.out rfl) FX.out (by simp [Value.oneCell']) kr_ rfl ?_;clear hHeld;refine st_over (old:=[.string ⟨#[]⟩,.int .i64 0,.string ⟨#[]⟩]) (N:=wr.heap.size+1) rfl ZX.out FX.out om_ ?_;intro x3 hb3 ZB FB hs3 ho3;have B3:=BX.trans hb3;have d0x3:=(B3.cell (p:=⟨wr.heap.size,0,none⟩) (by show wr.heap.size<wr.heap.size+1;omega)).trans d0;have d1x3:=(B3.cell (p:=⟨wr.heap.size,1,none⟩) (by show wr.heap.size<wr.heap.size+1;omega)).trans d1;refine hK.out _ _ ⟨d0x3,d1x3⟩ fun hHeld=>?_;clear hK K hHeld ZX FX hb3 ho3
       try simp only [qq]
       refine wpAnyH_done kr_ ?_ _;have BT3:But (w.heap.size+1) E x3:=BTr.trans (But.of_below (BX0.trans (B3.mono om_)));have M3:=hI_ (mp_below HMr.out (BX0.trans (B3.mono om_)) om_);have h0:=(BT3.cell (p:=⟨H,0,none⟩) (show H<E.heap.size by omega) (show H≠w.heap.size+1 by omega)).trans hE0;have a0:=ZB 0 _ rfl;clear B3 BX d0x3 d1x3 d0 d1 FB
       go_wp2_with fail
       refine wp_region_held_drew (S:=(fun u=>u.cell? ⟨x1.heap.size,0,none⟩=some (.string fm)/\u.cell? ⟨H,0,none⟩=some (.int .i64 W))) kr_ ?_ fun hHeld=>?_
       · exact ⟨a0,h0⟩
       refine tq 0 hHeld ?_
       try simp only [qq]
       refine tq 1 hHeld ?_
       try simp only [qq]
       refine tq 2 hHeld ?_
       try simp only [qq]
       refine tq 3 hHeld ?_
       try simp only [qq]
       refine tq 4 hHeld ?_
       try simp only [qq]
       refine tq 5 hHeld ?_
       try simp only [qq]
       refine rq 6 fun K hK=>?_;go_simp;refine (c40n fm W sm _ HSM.out hfm7).mono ?_;rintro e x4 ⟨rfl,hb4⟩
       go_wp2_with fail
       have b4:Below x3.heap.size x3 x4:=((Below.refl _ _).drew).trans hb4;have s4:=b4.size;have ZC:=hI_ (ZB.below b4 om_);have BT4:=BT3.trans (But.of_below b4);have M4:=hI_ (mp_below M3.out b4 om_);have a1:=ZC.out 0 _ rfl;have a2:=ZC.out 1 _ rfl;have a3:=ZC.out 2 _ rfl;have h1:=(BT4.cell (p:=⟨H,0,none⟩) (show H<E.heap.size by omega) (show H≠w.heap.size+1 by omega)).trans hE0;have h2:=(BT4.cell (p:=⟨H,1,none⟩) (show H<E.heap.size by omega) (show H≠w.heap.size+1 by omega)).trans hE1;have hT4:=(BT4.block bT om_ om_).trans hTE;clear hHeld hb4;refine hK.out _ _ ⟨a1,h1⟩ fun hHeld=>?_;clear hK K
       try simp only [qq]
       refine tq 7 hHeld ?_
       try simp only [qq]
       refine wpAnyH_done kr_ ?_ _;clear hHeld;clear ZB M3 BT3 a0 h0;have BFIN:Below w.heap.size w x4:=BWE.trans (BT4.below om_ om_);have szZ:w.heap.size<=x4.heap.size:=om_
       cases hqm:getK (ts.map (gT W)) sm with
       | some v=>
        obtain ⟨y,hvy,hput⟩:=HFr.out.met (W:=W) (t:=fm) (by rw [HSM.out];exact .inl hqm);have HP2:Hid (putAll W ((fmL ls c t).take (k+1)) (ts,true)=(tk,decide (y=fm))):=by
         show putAll _ _ _=_;rw [HTK.out,putAll_app,HPu.out];show ((putT W fm tk).1,true&&(putT W fm tk).2)=_;rw [hput];rfl
        clear hput;subst hvy;by_cases hy:y=fm
        · have hy2:=hy.symm
          subst hy2;have HP3:Hid (putAll W ((fmL ls c t).take (k+1)) (ts,true)=(tk,true)):=by have h:=HP2.out;rw [decide_eq_true rfl] at h;exact h
          clear HP2 hy;have hlk:=HLT.out x4 sm HSZ.out hT4;rw [hqm] at hlk;simp only [Option.getD_some,Option.isSome_some] at hlk;rw [HVF.out] at hlk;have bV:Below x4.heap.size x4 (x4.alloc (.cells #[.string fm,.int .i64 r.1,.string r.2] 92)):=bA_;have n0:=(bV.cell (p:=⟨x1.heap.size,0,none⟩) (show x1.heap.size<x4.heap.size by omega)).trans a1;have n1:=(bV.cell (p:=⟨x1.heap.size,1,none⟩) (show x1.heap.size<x4.heap.size by omega)).trans a2;have n2:=(bV.cell (p:=⟨x1.heap.size,2,none⟩) (show x1.heap.size<x4.heap.size by omega)).trans a3;go_wp2;go_roundw
          case rel=>exact ⟨k+1,f,tk,om_,by go_num,hI_ (mp_below M4.out bV om_),HFr,HP3,om_,BT4.trans (But.of_below bV)⟩
          case measure=>simp [Go.RowKit.intOf];omega
        · have HNO:Hid ((putAll W (fmL ls c t) (ts,true)).2=false):=by
           show (putAll _ _ _).2=false;have h:=HP2.out;rw [decide_eq_false hy] at h;rw [<- List.take_append_drop (k+1) (fmL ls c t),putAll_app,h];exact putAll_no _ _ _
          have hne:¬ y.toList=fm.toList:=fun e=>hy ((ba_iff y fm).1 e);clear HP2;have hlk:=HLT.out x4 sm HSZ.out hT4;rw [hqm] at hlk;simp only [Option.getD_some,Option.isSome_some] at hlk;unfold hV at hlk;have bV:Below x4.heap.size x4 (x4.alloc (.cells #[.string y,.int .i64 (hC y),.string (hT y)] 92)):=bA_;have n0:=(bV.cell (p:=⟨x1.heap.size,0,none⟩) (show x1.heap.size<x4.heap.size by omega)).trans a1;have n1:=(bV.cell (p:=⟨x1.heap.size,1,none⟩) (show x1.heap.size<x4.heap.size by omega)).trans a2;have n2:=(bV.cell (p:=⟨x1.heap.size,2,none⟩) (show x1.heap.size<x4.heap.size by omega)).trans a3;go_wp2;go_ret2;exact ⟨.inr ⟨rfl,HNO.out⟩,BFIN.trans (bV.mono om_)⟩
       | none=>
        have hlk:=HLT.out x4 sm HSZ.out hT4;rw [hqm] at hlk;simp only [Option.getD_none,Option.isSome_none] at hlk;have b5:Below x4.heap.size x4 (x4.alloc (.cells #[.string ⟨#[]⟩,.int .i64 0,.string ⟨#[]⟩] 92)):=bA_;have m0:=(b5.cell (p:=⟨x1.heap.size,0,none⟩) (show x1.heap.size<x4.heap.size by omega)).trans a1;have m1:=(b5.cell (p:=⟨x1.heap.size,1,none⟩) (show x1.heap.size<x4.heap.size by omega)).trans a2;have m2:=(b5.cell (p:=⟨x1.heap.size,2,none⟩) (show x1.heap.size<x4.heap.size by omega)).trans a3;have M5:=mp_below M4.out b5 om_;have hl2:=look_ok_S (k:=sm) (z:=.agg #[.string ⟨#[]⟩,.int .i64 0,.string ⟨#[]⟩]) M5 underlying84 kr_ HSZ.out;clear M5
        cases hqf:getK f sm with
        | some v=>
         obtain ⟨y,hvy,hput⟩:=HFr.out.met (W:=W) (t:=fm) (by rw [HSM.out];exact .inr hqf);have HP2:Hid (putAll W ((fmL ls c t).take (k+1)) (ts,true)=(tk,decide (y=fm))):=by
          show putAll _ _ _=_;rw [HTK.out,putAll_app,HPu.out];show ((putT W fm tk).1,true&&(putT W fm tk).2)=_;rw [hput];rfl
         clear hput;subst hvy;by_cases hy:y=fm
         · have hy2:=hy.symm
           subst hy2;have HP3:Hid (putAll W ((fmL ls c t).take (k+1)) (ts,true)=(tk,true)):=by have h:=HP2.out;rw [decide_eq_true rfl] at h;exact h
           clear HP2 hy;rw [hqf] at hl2;simp only [Option.getD_some,Option.isSome_some] at hl2;rw [HVF.out] at hl2;have bV:Below x4.heap.size x4 (x4.alloc (.cells #[.string fm,.int .i64 r.1,.string r.2] 92)):=bA_;have n0:=(bV.cell (p:=⟨x1.heap.size,0,none⟩) (show x1.heap.size<x4.heap.size by omega)).trans a1;have n1:=(bV.cell (p:=⟨x1.heap.size,1,none⟩) (show x1.heap.size<x4.heap.size by omega)).trans a2;have n2:=(bV.cell (p:=⟨x1.heap.size,2,none⟩) (show x1.heap.size<x4.heap.size by omega)).trans a3;go_wp2;go_roundw
           case rel=>exact ⟨k+1,f,tk,om_,by go_num,hI_ (mp_below M4.out bV om_),HFr,HP3,om_,BT4.trans (But.of_below bV)⟩
           case measure=>simp [Go.RowKit.intOf];omega
         · have HNO:Hid ((putAll W (fmL ls c t) (ts,true)).2=false):=by
            show (putAll _ _ _).2=false;have h:=HP2.out;rw [decide_eq_false hy] at h;rw [<- List.take_append_drop (k+1) (fmL ls c t),putAll_app,h];exact putAll_no _ _ _
           have hne:¬ y.toList=fm.toList:=fun e=>hy ((ba_iff y fm).1 e);clear HP2;rw [hqf] at hl2;simp only [Option.getD_some,Option.isSome_some] at hl2;unfold hV at hl2;have bV:Below x4.heap.size x4 (x4.alloc (.cells #[.string y,.int .i64 (hC y),.string (hT y)] 92)):=bA_;have n0:=(bV.cell (p:=⟨x1.heap.size,0,none⟩) (show x1.heap.size<x4.heap.size by omega)).trans a1;have n1:=(bV.cell (p:=⟨x1.heap.size,1,none⟩) (show x1.heap.size<x4.heap.size by omega)).trans a2;have n2:=(bV.cell (p:=⟨x1.heap.size,2,none⟩) (show x1.heap.size<x4.heap.size by omega)).trans a3;go_wp2;go_ret2;exact ⟨.inr ⟨rfl,HNO.out⟩,BFIN.trans (bV.mono om_)⟩
        | none=>
         rw [hqf] at hl2;simp only [Option.getD_none,Option.isSome_none] at hl2;have M5:=hI_ (mp_below M4.out b5 om_);have HFL:Hid (f.length<maxLen):=by show _<_;unfold maxLen;omega
         have HV2:Hid (tokR (.agg #[.string fm,.int .i64 r.1,.string r.2])=some (.held (hV fm),[])):=by show tokR _=_;rw [HVF.out];rfl
         have HAD:=hI_ (HFr.out.add (t:=fm) (by rw [HSM.out];exact hqm) (by rw [HSM.out];exact hqf));have HP3:Hid (putAll W ((fmL ls c t).take (k+1)) (ts,true)=(insT W fm tk,true)):=by
          show putAll _ _ _=_;rw [HTK.out,putAll_app,HPu.out];show ((putT W fm tk).1,true&&(putT W fm tk).2)=_;rw [HAD.out.1];rfl
         have HG:Hid (gT W fm=(sm,hV fm)):=by show (sumS fm W,hV fm)=_;rw [HSM.out]
         go_wp2_with (at_mapUpdate;refine wpList_mapUpdate_own _ rfl _ _ _ 84 rfl 9 92 lawS underlying84 tokR (w.heap.size+1) f.length (mapD f) rfl M5.out HFL.out _ _ (kS sm) rfl rfl (keyS HSZ.out) (.held (hV fm)) [] HV2.out ?_;intro x6 hm6 hg6)
         rw [mapD_put _ hqf] at hm6
         replace hm6:=mp_tight hm6
         rw [mapD_size] at hm6;have hfl:(insK (sm,hV fm) f).length=f.length+1:=by rw [(insK_perm _ _).length_eq];rfl
         have HFR2:Hid (Fr W (ts.map (gT W)) (insK (sm,hV fm) f) (insT W fm tk)):=by have h:=HAD.out.2;rw [HG.out] at h;exact h
         have HM6:=hI_ hm6;have BT6:=(BT4.trans (But.of_below b5)).trans (But.of_gb hg6);clear hm6 hg6;go_roundw
         case rel=>exact ⟨k+1,insK (sm,hV fm) f,insT W fm tk,om_,by go_num,HM6,HFR2,HP3,om_,BT6⟩
         case measure=>simp [Go.RowKit.intOf];omega
     · go_simp
       have bX:Below (wr.heap.size+1) x0 ((x0.alloc (.cells #[.string ⟨#[]⟩,.int .i64 0,.string ⟨#[]⟩] 92)).drew):=((Below.refl _ _).alloc om_ _).drew;have ZX0:Hid (BlkAt ((x0.alloc (.cells #[.string ⟨#[]⟩,.int .i64 0,.string ⟨#[]⟩] 92)).drew) (wr.heap.size+1) [.string ⟨#[]⟩,.int .i64 0,.string ⟨#[]⟩]):=hI_ (sz0▸(blk_new x0 [.string ⟨#[]⟩,.int .i64 0,.string ⟨#[]⟩] 92));have FX0:Hid (OpnAt ((x0.alloc (.cells #[.string ⟨#[]⟩,.int .i64 0,.string ⟨#[]⟩] 92)).drew) (wr.heap.size+1)):=hI_ (sz0▸(opn_new x0 #[.string ⟨#[]⟩,.int .i64 0,.string ⟨#[]⟩] 92));have sX:((x0.alloc (.cells #[.string ⟨#[]⟩,.int .i64 0,.string ⟨#[]⟩] 92)).drew).heap.size=wr.heap.size+2:=so_;have d0x1:=(bX.cell (p:=⟨wr.heap.size,0,none⟩) (by show wr.heap.size<wr.heap.size+1;omega)).trans d0;have d1x1:=(bX.cell (p:=⟨wr.heap.size,1,none⟩) (by show wr.heap.size<wr.heap.size+1;omega)).trans d1;clear hHeld;refine hK.out _ _ ⟨d0x1,d1x1⟩ fun hHeld=>?_;clear hK K
       try simp only [qq]
       generalize ((x0.alloc (.cells #[.string ⟨#[]⟩,.int .i64 0,.string ⟨#[]⟩] 92)).drew)=x1 at*;refine rq 1 fun K hK=>?_;go_simp;refine (c130n r.1 r.2 fm _ HFM.out hr7).mono ?_;rintro e x2 ⟨rfl,hbx2⟩
       go_wp2_with fail
       have sx2:=hbx2.size;have BX:=bX.trans (hbx2.mono om_);have ZX:=hI_ (ZX0.out.below hbx2 om_);have FX:=hI_ (FX0.out.below hbx2 om_);have d0x2:=(BX.cell (p:=⟨wr.heap.size,0,none⟩) (by show wr.heap.size<wr.heap.size+1;omega)).trans d0;have d1x2:=(BX.cell (p:=⟨wr.heap.size,1,none⟩) (by show wr.heap.size<wr.heap.size+1;omega)).trans d1;clear hHeld;refine hK.out _ _ ⟨d0x2,d1x2⟩ fun hHeld=>?_;clear hK K
       try simp only [qq]
       refine tq 3 hHeld ?_
       try simp only [qq]
       refine rq 5 fun K hK=>?_;refine step_store_blk rfl 92 (.tmp 11) (.tmp 29) rfl (wr.heap.size+1) 0 rfl [.string fm,.int .i64 r.1,.string r.2] rfl (blk_some ZX.out rfl) FX.out (by simp [Value.oneCell']) kr_ rfl ?_;clear hHeld;refine st_over (old:=[.string ⟨#[]⟩,.int .i64 0,.string ⟨#[]⟩]) (N:=wr.heap.size+1) rfl ZX.out FX.out om_ ?_;intro x3 hb3 ZB FB hs3 ho3;have B3:=BX.trans hb3;have d0x3:=(B3.cell (p:=⟨wr.heap.size,0,none⟩) (by show wr.heap.size<wr.heap.size+1;omega)).trans d0;have d1x3:=(B3.cell (p:=⟨wr.heap.size,1,none⟩) (by show wr.heap.size<wr.heap.size+1;omega)).trans d1;refine hK.out _ _ ⟨d0x3,d1x3⟩ fun hHeld=>?_;clear hK K hHeld ZX FX hb3 ho3
       try simp only [qq]
       refine wpAnyH_done kr_ ?_ _;have BT3:But (w.heap.size+1) E x3:=BTr.trans (But.of_below (BX0.trans (B3.mono om_)));have M3:=hI_ (mp_below HMr.out (BX0.trans (B3.mono om_)) om_);have h0:=(BT3.cell (p:=⟨H,0,none⟩) (show H<E.heap.size by omega) (show H≠w.heap.size+1 by omega)).trans hE0;have a0:=ZB 0 _ rfl;clear B3 BX d0x3 d1x3 d0 d1 FB
       go_wp2_with fail
       refine wp_region_held_drew (S:=(fun u=>u.cell? ⟨(wr.heap.size+1),0,none⟩=some (.string fm)/\u.cell? ⟨H,0,none⟩=some (.int .i64 W))) kr_ ?_ fun hHeld=>?_
       · exact ⟨a0,h0⟩
       refine tq 0 hHeld ?_
       try simp only [qq]
       refine tq 1 hHeld ?_
       try simp only [qq]
       refine tq 2 hHeld ?_
       try simp only [qq]
       refine tq 3 hHeld ?_
       try simp only [qq]
       refine tq 4 hHeld ?_
       try simp only [qq]
       refine tq 5 hHeld ?_
       try simp only [qq]
       refine rq 6 fun K hK=>?_;go_simp;refine (c40n fm W sm _ HSM.out hfm7).mono ?_;rintro e x4 ⟨rfl,hb4⟩
       go_wp2_with fail
       have b4:Below x3.heap.size x3 x4:=((Below.refl _ _).drew).trans hb4;have s4:=b4.size;have ZC:=hI_ (ZB.below b4 om_);have BT4:=BT3.trans (But.of_below b4);have M4:=hI_ (mp_below M3.out b4 om_);have a1:=ZC.out 0 _ rfl;have a2:=ZC.out 1 _ rfl;have a3:=ZC.out 2 _ rfl;have h1:=(BT4.cell (p:=⟨H,0,none⟩) (show H<E.heap.size by omega) (show H≠w.heap.size+1 by omega)).trans hE0;have h2:=(BT4.cell (p:=⟨H,1,none⟩) (show H<E.heap.size by omega) (show H≠w.heap.size+1 by omega)).trans hE1;have hT4:=(BT4.block bT om_ om_).trans hTE;clear hHeld hb4;refine hK.out _ _ ⟨a1,h1⟩ fun hHeld=>?_;clear hK K
       try simp only [qq]
       refine tq 7 hHeld ?_
       try simp only [qq]
       refine wpAnyH_done kr_ ?_ _;clear hHeld;clear ZB M3 BT3 a0 h0;have BFIN:Below w.heap.size w x4:=BWE.trans (BT4.below om_ om_);have szZ:w.heap.size<=x4.heap.size:=om_
       cases hqm:getK (ts.map (gT W)) sm with
       | some v=>
        obtain ⟨y,hvy,hput⟩:=HFr.out.met (W:=W) (t:=fm) (by rw [HSM.out];exact .inl hqm);have HP2:Hid (putAll W ((fmL ls c t).take (k+1)) (ts,true)=(tk,decide (y=fm))):=by
         show putAll _ _ _=_;rw [HTK.out,putAll_app,HPu.out];show ((putT W fm tk).1,true&&(putT W fm tk).2)=_;rw [hput];rfl
        clear hput;subst hvy;by_cases hy:y=fm
        · have hy2:=hy.symm
          subst hy2;have HP3:Hid (putAll W ((fmL ls c t).take (k+1)) (ts,true)=(tk,true)):=by have h:=HP2.out;rw [decide_eq_true rfl] at h;exact h
          clear HP2 hy;have hlk:=HLT.out x4 sm HSZ.out hT4;rw [hqm] at hlk;simp only [Option.getD_some,Option.isSome_some] at hlk;rw [HVF.out] at hlk;have bV:Below x4.heap.size x4 (x4.alloc (.cells #[.string fm,.int .i64 r.1,.string r.2] 92)):=bA_;have n0:=(bV.cell (p:=⟨(wr.heap.size+1),0,none⟩) (show (wr.heap.size+1)<x4.heap.size by omega)).trans a1;have n1:=(bV.cell (p:=⟨(wr.heap.size+1),1,none⟩) (show (wr.heap.size+1)<x4.heap.size by omega)).trans a2;have n2:=(bV.cell (p:=⟨(wr.heap.size+1),2,none⟩) (show (wr.heap.size+1)<x4.heap.size by omega)).trans a3;go_wp2;go_roundw
          case rel=>exact ⟨k+1,f,tk,om_,by go_num,hI_ (mp_below M4.out bV om_),HFr,HP3,om_,BT4.trans (But.of_below bV)⟩
          case measure=>simp [Go.RowKit.intOf];omega
        · have HNO:Hid ((putAll W (fmL ls c t) (ts,true)).2=false):=by
           show (putAll _ _ _).2=false;have h:=HP2.out;rw [decide_eq_false hy] at h;rw [<- List.take_append_drop (k+1) (fmL ls c t),putAll_app,h];exact putAll_no _ _ _
          have hne:¬ y.toList=fm.toList:=fun e=>hy ((ba_iff y fm).1 e);clear HP2;have hlk:=HLT.out x4 sm HSZ.out hT4;rw [hqm] at hlk;simp only [Option.getD_some,Option.isSome_some] at hlk;unfold hV at hlk;have bV:Below x4.heap.size x4 (x4.alloc (.cells #[.string y,.int .i64 (hC y),.string (hT y)] 92)):=bA_;have n0:=(bV.cell (p:=⟨(wr.heap.size+1),0,none⟩) (show (wr.heap.size+1)<x4.heap.size by omega)).trans a1;have n1:=(bV.cell (p:=⟨(wr.heap.size+1),1,none⟩) (show (wr.heap.size+1)<x4.heap.size by omega)).trans a2;have n2:=(bV.cell (p:=⟨(wr.heap.size+1),2,none⟩) (show (wr.heap.size+1)<x4.heap.size by omega)).trans a3;go_wp2;go_ret2;exact ⟨.inr ⟨rfl,HNO.out⟩,BFIN.trans (bV.mono om_)⟩
       | none=>
        have hlk:=HLT.out x4 sm HSZ.out hT4;rw [hqm] at hlk;simp only [Option.getD_none,Option.isSome_none] at hlk;have b5:Below x4.heap.size x4 (x4.alloc (.cells #[.string ⟨#[]⟩,.int .i64 0,.string ⟨#[]⟩] 92)):=bA_;have m0:=(b5.cell (p:=⟨(wr.heap.size+1),0,none⟩) (show (wr.heap.size+1)<x4.heap.size by omega)).trans a1;have m1:=(b5.cell (p:=⟨(wr.heap.size+1),1,none⟩) (show (wr.heap.size+1)<x4.heap.size by omega)).trans a2;have m2:=(b5.cell (p:=⟨(wr.heap.size+1),2,none⟩) (show (wr.heap.size+1)<x4.heap.size by omega)).trans a3;have M5:=mp_below M4.out b5 om_;have hl2:=look_ok_S (k:=sm) (z:=.agg #[.string ⟨#[]⟩,.int .i64 0,.string ⟨#[]⟩]) M5 underlying84 kr_ HSZ.out;clear M5
        cases hqf:getK f sm with
        | some v=>
         obtain ⟨y,hvy,hput⟩:=HFr.out.met (W:=W) (t:=fm) (by rw [HSM.out];exact .inr hqf);have HP2:Hid (putAll W ((fmL ls c t).take (k+1)) (ts,true)=(tk,decide (y=fm))):=by
          show putAll _ _ _=_;rw [HTK.out,putAll_app,HPu.out];show ((putT W fm tk).1,true&&(putT W fm tk).2)=_;rw [hput];rfl
         clear hput;subst hvy;by_cases hy:y=fm
         · have hy2:=hy.symm
           subst hy2;have HP3:Hid (putAll W ((fmL ls c t).take (k+1)) (ts,true)=(tk,true)):=by have h:=HP2.out;rw [decide_eq_true rfl] at h;exact h
           clear HP2 hy;rw [hqf] at hl2;simp only [Option.getD_some,Option.isSome_some] at hl2;rw [HVF.out] at hl2;have bV:Below x4.heap.size x4 (x4.alloc (.cells #[.string fm,.int .i64 r.1,.string r.2] 92)):=bA_;have n0:=(bV.cell (p:=⟨(wr.heap.size+1),0,none⟩) (show (wr.heap.size+1)<x4.heap.size by omega)).trans a1;have n1:=(bV.cell (p:=⟨(wr.heap.size+1),1,none⟩) (show (wr.heap.size+1)<x4.heap.size by omega)).trans a2;have n2:=(bV.cell (p:=⟨(wr.heap.size+1),2,none⟩) (show (wr.heap.size+1)<x4.heap.size by omega)).trans a3;go_wp2;go_roundw
           case rel=>exact ⟨k+1,f,tk,om_,by go_num,hI_ (mp_below M4.out bV om_),HFr,HP3,om_,BT4.trans (But.of_below bV)⟩
           case measure=>simp [Go.RowKit.intOf];omega
         · have HNO:Hid ((putAll W (fmL ls c t) (ts,true)).2=false):=by
            show (putAll _ _ _).2=false;have h:=HP2.out;rw [decide_eq_false hy] at h;rw [<- List.take_append_drop (k+1) (fmL ls c t),putAll_app,h];exact putAll_no _ _ _
           have hne:¬ y.toList=fm.toList:=fun e=>hy ((ba_iff y fm).1 e);clear HP2;rw [hqf] at hl2;simp only [Option.getD_some,Option.isSome_some] at hl2;unfold hV at hl2;have bV:Below x4.heap.size x4 (x4.alloc (.cells #[.string y,.int .i64 (hC y),.string (hT y)] 92)):=bA_;have n0:=(bV.cell (p:=⟨(wr.heap.size+1),0,none⟩) (show (wr.heap.size+1)<x4.heap.size by omega)).trans a1;have n1:=(bV.cell (p:=⟨(wr.heap.size+1),1,none⟩) (show (wr.heap.size+1)<x4.heap.size by omega)).trans a2;have n2:=(bV.cell (p:=⟨(wr.heap.size+1),2,none⟩) (show (wr.heap.size+1)<x4.heap.size by omega)).trans a3;go_wp2;go_ret2;exact ⟨.inr ⟨rfl,HNO.out⟩,BFIN.trans (bV.mono om_)⟩
        | none=>
         rw [hqf] at hl2;simp only [Option.getD_none,Option.isSome_none] at hl2;have M5:=hI_ (mp_below M4.out b5 om_);have HFL:Hid (f.length<maxLen):=by show _<_;unfold maxLen;omega
         have HV2:Hid (tokR (.agg #[.string fm,.int .i64 r.1,.string r.2])=some (.held (hV fm),[])):=by show tokR _=_;rw [HVF.out];rfl
         have HAD:=hI_ (HFr.out.add (t:=fm) (by rw [HSM.out];exact hqm) (by rw [HSM.out];exact hqf));have HP3:Hid (putAll W ((fmL ls c t).take (k+1)) (ts,true)=(insT W fm tk,true)):=by
          show putAll _ _ _=_;rw [HTK.out,putAll_app,HPu.out];show ((putT W fm tk).1,true&&(putT W fm tk).2)=_;rw [HAD.out.1];rfl
         have HG:Hid (gT W fm=(sm,hV fm)):=by show (sumS fm W,hV fm)=_;rw [HSM.out]
         go_wp2_with (at_mapUpdate;refine wpList_mapUpdate_own _ rfl _ _ _ 84 rfl 9 92 lawS underlying84 tokR (w.heap.size+1) f.length (mapD f) rfl M5.out HFL.out _ _ (kS sm) rfl rfl (keyS HSZ.out) (.held (hV fm)) [] HV2.out ?_;intro x6 hm6 hg6)
         rw [mapD_put _ hqf] at hm6
         replace hm6:=mp_tight hm6
         rw [mapD_size] at hm6;have hfl:(insK (sm,hV fm) f).length=f.length+1:=by rw [(insK_perm _ _).length_eq];rfl
         have HFR2:Hid (Fr W (ts.map (gT W)) (insK (sm,hV fm) f) (insT W fm tk)):=by have h:=HAD.out.2;rw [HG.out] at h;exact h
         have HM6:=hI_ hm6;have BT6:=(BT4.trans (But.of_below b5)).trans (But.of_gb hg6);clear hm6 hg6;go_roundw
         case rel=>exact ⟨k+1,insK (sm,hV fm) f,insT W fm tk,om_,by go_num,HM6,HFR2,HP3,om_,BT6⟩
         case measure=>simp [Go.RowKit.intOf];omega
   · obtain rfl:k=(askR ls).length+1:=om_
     have HPF:Hid (putAll W (fmL ls c t) (ts,true)=(tk,true)):=by have h:=HPu.out;rw [List.take_of_length_le (by simp [fmL])] at h;exact h
     go_wp2;go_ret2;exact ⟨.inl ⟨w.heap.size+1,f,tk,rfl,om_,HMr.out,HFr.out,HPF.out⟩,BWE.trans (BTr.below om_ om_)⟩
 refine wp_region_held_drew (S:=(fun u=>u.cell? ⟨w.heap.size,0,none⟩=some (.int .i64 c)/\u.cell? ⟨w.heap.size,1,none⟩=some (.string t))) kr_ ?_ fun hHeld=>?_
 · exact ⟨e0,e1⟩
 refine tq 0 hHeld ?_
 try simp only [qq]
 refine tq 2 hHeld ?_
 try simp only [qq]
 refine tq 6 hHeld ?_
 try simp only [qq]
 refine wpAnyH_ready (rs:=[1,3]) kr_ sm_ ?_;refine AllReadyH.cons (o:=⟨some 17,.call ⟨.value (.func 129),#[.tmp 16],#[43]⟩,201,_,_,none⟩) rfl (fun K hK=>?_) (AllReadyH.cons (o:=⟨some 19,.buildSlice 201 1 #[(0,.tmp 18)],201,_,_,none⟩) rfl (fun K hK=>?_) AllReadyH.nil)
 · go_simp
   refine (c129 ls a cap _ hl (lks_below HLK.out ((Below.refl _ _).drew))).mono ?_;rintro e u2 ⟨⟨va,rfl,hva⟩,hbu2⟩
   go_wp2_with fail
   have B2:Below U1.heap.size U1 u2:=((Below.refl _ _).drew).trans hbu2;have s2:=B2.size;have hdr:U1.drew.heap.size<=U1.heap.size/\U1.heap.size<=U1.drew.heap.size:=⟨Nat.le_refl _,Nat.le_refl _⟩;have p0:=(B2.cell (p:=⟨w.heap.size,0,none⟩) (by show w.heap.size<U1.heap.size;omega)).trans e0;have p1:=(B2.cell (p:=⟨w.heap.size,1,none⟩) (by show w.heap.size<U1.heap.size;omega)).trans e1;clear hHeld;refine hK.out _ _ ⟨p0,p1⟩ fun hHeld=>?_;clear hK K
   try simp only [qq]
   refine rq 3 fun K hK=>?_;go_simp;have bA:Below u2.heap.size u2 (u2.alloc (.cells #[.int .i64 c,.string t] 45)):=bA_;have cA:=row2 u2 (.int .i64 c) (.string t) 45;have sA:(u2.alloc (.cells #[.int .i64 c,.string t] 45)).heap.size=u2.heap.size+1:=sm_;have q0:=(bA.cell (p:=⟨w.heap.size,0,none⟩) (by show w.heap.size<u2.heap.size;omega)).trans p0;have q1:=(bA.cell (p:=⟨w.heap.size,1,none⟩) (by show w.heap.size<u2.heap.size;omega)).trans p1;clear hHeld;refine hK.out _ _ ⟨q0,q1⟩ fun hHeld=>?_;clear hK K
   try simp only [qq]
   have hv2:=hI_ (own_below hva bA);have B3:=B2.trans (bA.mono s2);generalize (u2.alloc (.cells #[.int .i64 c,.string t] 45))=u3 at*;refine rq 4 fun K hK=>?_;refine step_app_at rfl (.tmp 17) (.tmp 19) 201 rfl _ 45 i0 (.agg #[.int .i64 0,.string ⟨#[]⟩]) 2 24 underlying201 hi hz0 hz1 hz2 rfl dc_ va _ _ rfl hv2.out ⟨u2.heap.size,0,none⟩ 1 1 [.int .i64 c,.string t] rfl rfl cA (by simp [Value.oneCell']) HM1.out HM2.out om_ ?_;intro v4 u4 ho4 hg4 hl4;have B4:Below U1.heap.size U1 u4:=B3.trans (gb_below hg4 (fun j e=>Nat.le_trans om_ (own_blk hv2.out e)) om_);have s4:=B4.size;have O4:=hI_ (own_low ho4 (base':=U1.heap.size) om_);obtain ⟨a4,c904,hv4⟩:=row_form O4.out;have k0:=(B4.cell (p:=⟨w.heap.size,0,none⟩) (by show w.heap.size<U1.heap.size;omega)).trans e0;have k1:=(B4.cell (p:=⟨w.heap.size,1,none⟩) (by show w.heap.size<U1.heap.size;omega)).trans e1;subst hv4;clear hHeld;refine hK.out _ _ ⟨k0,k1⟩ fun hHeld=>?_;clear hK K
   try simp only [qq]
   refine tq 5 hHeld ?_
   try simp only [qq]
   refine wpAnyH_done kr_ ?_ _;exact TAIL va u2.heap.size a4 c904 u4 B4 O4
 · go_simp
   have bA:Below U1.heap.size U1 ((U1.alloc (.cells #[.int .i64 c,.string t] 45)).drew):=bA_.drew;have cA0:=row2 U1 (.int .i64 c) (.string t) 45;have sA:((U1.alloc (.cells #[.int .i64 c,.string t] 45)).drew).heap.size=U1.heap.size+1:=sm_;have q0:=(bA.cell (p:=⟨w.heap.size,0,none⟩) (by show w.heap.size<U1.heap.size;omega)).trans e0;have q1:=(bA.cell (p:=⟨w.heap.size,1,none⟩) (by show w.heap.size<U1.heap.size;omega)).trans e1;clear hHeld;refine hK.out _ _ ⟨q0,q1⟩ fun hHeld=>?_;clear hK K
   try simp only [qq]
   have cA1:∀ j u,[Value.int .i64 c,.string t][j]?=some u->((U1.alloc (.cells #[.int .i64 c,.string t] 45)).drew).cell? ((⟨U1.heap.size,0,none⟩:Addr).add j)=some u:=cA0;generalize ((U1.alloc (.cells #[.int .i64 c,.string t] 45)).drew)=u2 at*;refine rq 1 fun K hK=>?_;go_simp;refine (c129 ls a cap _ hl (lks_below HLK.out bA)).mono ?_;rintro e u3 ⟨⟨va,rfl,hva⟩,hbu3⟩
   go_wp2_with fail
   have s3:=hbu3.size;have B3:=bA.trans (hbu3.mono om_);have q2:=(hbu3.cell (p:=⟨w.heap.size,0,none⟩) (by show w.heap.size<u2.heap.size;omega)).trans q0;have q3:=(hbu3.cell (p:=⟨w.heap.size,1,none⟩) (by show w.heap.size<u2.heap.size;omega)).trans q1;have cA:∀ j u,[Value.int .i64 c,.string t][j]?=some u->u3.cell? ((⟨w.heap.size+2,0,none⟩:Addr).add j)=some u:=fun j u h=>by
    rw [<- s1];exact (hbu3.cell (by rw [adr_add];show U1.heap.size<u2.heap.size;omega)).trans (cA1 j u h)
   clear hHeld;refine hK.out _ _ ⟨q2,q3⟩ fun hHeld=>?_;clear hK K
   try simp only [qq]
   have hv2:=hI_ hva;refine rq 4 fun K hK=>?_;refine step_app_at rfl (.tmp 17) (.tmp 19) 201 rfl _ 45 i0 (.agg #[.int .i64 0,.string ⟨#[]⟩]) 2 24 underlying201 hi hz0 hz1 hz2 rfl dc_ va _ _ rfl hv2.out ⟨w.heap.size+2,0,none⟩ 1 1 [.int .i64 c,.string t] rfl rfl cA (by simp [Value.oneCell']) HM1.out HM2.out om_ ?_;intro v4 u4 ho4 hg4 hl4;have B4:Below U1.heap.size U1 u4:=B3.trans (gb_below hg4 (fun j e=>Nat.le_trans om_ (own_blk hv2.out e)) om_);have s4:=B4.size;have O4:=hI_ (own_low ho4 (base':=U1.heap.size) om_);obtain ⟨a4,c904,hv4⟩:=row_form O4.out;have k0:=(B4.cell (p:=⟨w.heap.size,0,none⟩) (by show w.heap.size<U1.heap.size;omega)).trans e0;have k1:=(B4.cell (p:=⟨w.heap.size,1,none⟩) (by show w.heap.size<U1.heap.size;omega)).trans e1;subst hv4;clear hHeld;refine hK.out _ _ ⟨k0,k1⟩ fun hHeld=>?_;clear hK K
   try simp only [qq]
   refine tq 5 hHeld ?_
   try simp only [qq]
   refine wpAnyH_done kr_ ?_ _;exact TAIL va (w.heap.size+2) a4 c904 u4 B4 O4
end Go.Proofs.YtlckdgjfniglfaaGreatDoor
