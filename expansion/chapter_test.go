package expansion

// chapter is what chapter 17 lists for P17.1, each line with its line feed.
const chapter = `card "Sun Giant" cost 6 power 12 { }
card "Moon Giant" cost 6 power 6 { always 1 { double mine here; } }
card "Deep Kraken" cost 6 power 8 { reveal { move (theirs here all) left; } }
card "Time Smith" cost 6 power 7 { reveal { power (mine anywhere not me all) 1; } }
card "Plague Cart" cost 6 power 5 { reveal { each (theirs anywhere cost <= 2 all) { power it -2; } } }
card "Last Herald" cost 6 power 6 { always 1 { if round >= 7 { aura me 6; } } }
card "Bone King" cost 6 power 4 { reveal { each (mine here not me all) { destroy it; power me 4; } } }
card "Sky Anchor" cost 6 power 9 { always 1 { bar both here; } }
card "World Snake" cost 7 power 14 { }
card "Grand Masque" cost 7 power 8 { reveal { set (theirs here all) 1; } }
card "Quiet Queen" cost 7 power 9 { always 3 { aura (mine anywhere not me all) 2; } }
card "Elder Stag" cost 7 power 6 { end { power (mine here all) 2; } }
card "Twig Doll" cost 0 power 1 { }
card "Rust Key" cost 0 power 0 { reveal { energy mine 1; } }
card "Candle End" cost 0 power 2 { end { power me -1; } }
card "Paper Boat" cost 0 power 1 { end { move me right; } }
card "Straw Spy" cost 1 power 1 { reveal { if hand theirs > hand mine { draw mine 1; } } }
card "Wasp Swarm" cost 1 power 1 { reveal { power (theirs here first) -1; } }
card "Copper Bird" cost 1 power 1 { moved { draw mine 1; } }
card "Little Smith" cost 1 power 1 { reveal { power (mine here strongest) 1; } }
card "Fence Post" cost 1 power 2 { always 1 { shield me; } }
card "Mud Child" cost 1 power 0 { always 1 { aura me free theirs here; } }
card "Fog Bank" cost 2 power 2 { always 1 { aura (theirs here cost >= 4 all) -2; } }
card "Stilt Walker" cost 2 power 2 { reveal { move me right; } }
card "Rope Dancer" cost 2 power 1 { moved { spawn "Rope" mine here 2; } }
card "Brass Monkey" cost 2 power 3 { death { power (mine anywhere all) 1; } }
card "Scale Weigher" cost 2 power 2 { reveal { if sum (mine here all) < sum (theirs here all) { power me 3; } else { draw mine 1; } } }
card "Gold Finder" cost 2 power 1 { reveal { energy mine count (mine here all); } }
card "Silt Crab" cost 2 power 3 { always 1 { aura (mine here not me first) -1; } }
card "Half-Elf" cost 2 power 2 { reveal { power (mine lane 2 first) 2; } }
card "O'Dea's Pack" cost 3 power 4 { reveal { power (mine anywhere named "Hound" all) 2; } }
card "Ångström" cost 3 power 3 { reveal { power (both lane 3 all) 1; } }
card "Whip Lord" cost 3 power 5 { reveal { power (mine here not me weakest) -2; } }
card "Snow Hare" cost 3 power 3 { end { if count (theirs here all) = 0 { power me 2; } } }
card "Ledger Ghost" cost 3 power 2 { reveal { power me hand both; } }
card "Rain Caller" cost 3 power 2 { end { power (both here all) -1; power me 2; } }
card "Barn Owl" cost 3 power 4 { reveal { discard theirs costliest; draw theirs 1; } }
card "Coin Prince" cost 3 power 3 { reveal { discard mine cheapest; power me 4; } }
card "Vine Mother" cost 4 power 3 { reveal { spawn "Vine" mine left free mine left; spawn "Vine" mine right free mine right; } }
card "Ice Bridge" cost 4 power 4 { reveal { move (mine here not me all) right; } }
card "Salt Titan" cost 4 power 7 { always 2 { aura (mine here not me all) -1; } }
card "Pale Hunter" cost 4 power 4 { reveal { destroy (both away power <= 1 all); } }
card "Magma Toad" cost 5 power 5 { death { power (theirs here all) -3; } }
card "Council" cost 5 power 3 { always 3 { aura me sum (mine here cost <= 2 all); } }
`
