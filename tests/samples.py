"""Published examples (FIPS 197, SP 800-38A, GCM), and bytes to try things with."""

LENGTHS = (16, 24, 32)
GREATEST = 18446744073709551615
WRONG_LENGTHS = (0, 1, 8, 15, 17, 20, 23, 25, 28, 31, 33, 48, 64, 128, 192, 256, 2 ** 32 + 16, 2 ** 63, GREATEST)


def hexed(text):
    return list(bytes.fromhex(text))


def spread(count, seed):
    """Bytes without a pattern, the same each time."""
    state = seed * 2654435761 + 12345
    out = []
    for _ in range(count):
        state = (state * 6364136223846793005 + 1442695040888963407) % 2 ** 64
        out.append(state >> 56)
    return out


# FIPS 197, appendix A: the key, then the words of its expansion behind it.
EXPANSIONS = {
    16: (
        "2b7e1516 28aed2a6 abf71588 09cf4f3c",
        """a0fafe17 88542cb1 23a33939 2a6c7605 f2c295f2 7a96b943 5935807a 7359f67f
        3d80477d 4716fe3e 1e237e44 6d7a883b ef44a541 a8525b7f b671253b db0bad00
        d4d1c6f8 7c839d87 caf2b8bc 11f915bc 6d88a37a 110b3efd dbf98641 ca0093fd
        4e54f70e 5f5fc9f3 84a64fb2 4ea6dc4f ead27321 b58dbad2 312bf560 7f8d292f
        ac7766f3 19fadc21 28d12941 575c006e d014f9a8 c9ee2589 e13f0cc8 b6630ca6""",
    ),
    24: (
        "8e73b0f7 da0e6452 c810f32b 809079e5 62f8ead2 522c6b7b",
        """fe0c91f7 2402f5a5 ec12068e 6c827f6b 0e7a95b9 5c56fec2 4db7b4bd 69b54118
        85a74796 e92538fd e75fad44 bb095386 485af057 21efb14f a448f6d9 4d6dce24
        aa326360 113b30e6 a25e7ed5 83b1cf9a 27f93943 6a94f767 c0a69407 d19da4e1
        ec1786eb 6fa64971 485f7032 22cb8755 e26d1352 33f0b7b3 40beeb28 2f18a259
        6747d26b 458c553e a7e1466c 9411f1df 821f750a ad07d753 ca400538 8fcc5006
        282d166a bc3ce7b5 e98ba06f 448c773c 8ecc7204 01002202""",
    ),
    32: (
        "603deb10 15ca71be 2b73aef0 857d7781 1f352c07 3b6108d7 2d9810a3 0914dff4",
        """9ba35411 8e6925af a51a8b5f 2067fcde a8b09c1a 93d194cd be49846e b75d5b9a
        d59aecb8 5bf3c917 fee94248 de8ebe96 b5a9328a 2678a647 98312229 2f6c79b3
        812c81ad dadf48ba 24360af2 fab8b464 98c5bfc9 bebd198e 268c3ba7 09e04214
        68007bac b2df3316 96e939e4 6c518d80 c814e204 76a9fb8a 5025c02d 59c58239
        de136967 6ccc5a71 fa256395 9674ee15 5886ca5d 2e2f31d7 7e0af1fa 27cf73c3
        749c47ab 18501dda e2757e4f 7401905a cafaaae3 e4d59b34 9adf6ace bd10190d
        fe4890d1 e6188d0b 046df344 706c631e""",
    ),
}

# FIPS 197, appendix C: round keys for the way back under the key 00 01 02 .. ; all of them for 16,
# the first two for 24 and 32.
WAY_BACK = {
    16: """13111d7fe3944a17f307a78b4d2b30c5 13aa29be9c8faff6f770f58000f7bf03
        1362a4638f2586486bff5a76f7874a83 8d82fc749c47222be4dadc3e9c7810f5
        72e3098d11c5de5f789dfe1578a2cccb 2ec410276326d7d26958204a003f32de
        a8a2f5044de2c7f50a7ef79869671294 c7c6e391e54032f1479c306d6319e50c
        a0db02992286d160a2dc029c2485d561 8c56dff0825dd3f9805ad3fc8659d7fd
        000102030405060708090a0b0c0d0e0f""",
    24: "a4970a331a78dc09c418c271e3a41d5d d6bebd0dc209ea494db073803e021bb9",
    32: "24fc79ccbf0979e9371ac23c6d68de36 34f1d1ffbfceaa2ffce9e25f2558016e",
}

# FIPS 197, appendix C: 00 11 22 .. ff under the key 00 01 02 ..
PLAIN = hexed("00112233445566778899aabbccddeeff")
ENCIPHERED = {
    16: hexed("69c4e0d86a7b0430d8cdb78070b4c55a"),
    24: hexed("dda97ca4864cdfe06eaf70a0ec0d7191"),
    32: hexed("8ea2b7ca516745bfeafc49904b496089"),
}

# SP 800-38A, appendix F.1: four blocks under the keys of EXPANSIONS.
FOUR_PLAIN = hexed(
    "6bc1bee22e409f96e93d7e117393172a ae2d8a571e03ac9c9eb76fac45af8e51"
    "30c81c46a35ce411e5fbc1191a0a52ef f69f2445df4f9b17ad2b417be66c3710"
)
FOUR_ENCIPHERED = {
    16: hexed(
        "3ad77bb40d7a3660a89ecaf32466ef97 f5d3d58503b9699de785895a96fdbaaf"
        "43b1cd7f598ece23881b00e3ed030688 7b0c785e27e8ad3f8223207104725dd4"
    ),
    24: hexed(
        "bd334f1d6e45f25ff712a214571fa5cc 974104846d0ad3ad7734ecb3ecee4eef"
        "ef7afd2270e2e60adce0ba2face6444e 9a4b41ba738d6c72fb16691603c18e0e"
    ),
    32: hexed(
        "f3eed1bdb5d2a03c064b5a7e3db181f8 591ccb10d410ed26dc5ba74a31362870"
        "b6ed21b99ca6f4f9f153e7b1beafed1d 23304b7a39f9f3ff067d8d8f9e24ecc7"
    ),
}

# "The Galois/Counter Mode of Operation", appendix B, the cases with a nonce of 12 bytes, by the key's length:
# the key, the nonce, what goes with it, the text, the text sealed, the tag.
GCM_KEY = "feffe9928665731c6d6a8f9467308308"
GCM_NONCE = "cafebabefacedbaddecaf888"
GCM_BESIDE = "feedfacedeadbeeffeedfacedeadbeefabaddad2"
GCM_TEXT = (
    "d9313225f88406e5a55909c5aff5269a86a7a9531534f7da2e4c303d8a318a72"
    "1c3c0c95956809532fcf0e2449a6b525b16aedf5aa0de657ba637b391aafd255"
)
GCM_SEALED = {
    16: "42831ec2217774244b7221b784d0d49ce3aa212f2c02a4e035c17e2329aca12e"
        "21d514b25466931c7d8f6a5aac84aa051ba30b396a0aac973d58e091473f5985",
    24: "3980ca0b3c00e841eb06fac4872a2757859e1ceaa6efd984628593b40ca1e19c"
        "7d773d00c144c525ac619d18c84a3f4718e2448b2fe324d9ccda2710acade256",
    32: "522dc1f099567d07f47f37a32a84427d643a8cdcbfe5c0c97598a2bd2555d1aa"
        "8cb08e48590dbb3da7b08b1056828838c5f61e6393ba7a0abcc9f662898015ad",
}
# For each length: the tag of no text, one block sealed and its tag, the tag of GCM_TEXT alone, and the tag of its
# first 60 bytes with GCM_BESIDE.
GCM_TAGS = {
    16: (
        "58e2fccefa7e3061367f1d57a4e7455a", "0388dace60b6a392f328c2b971b2fe78", "ab6e47d42cec13bdf53a67b21257bddf",
        "4d5c2af327cd64a62cf35abd2ba6fab4", "5bc94fbc3221a5db94fae95ae7121a47",
    ),
    24: (
        "cd33b28ac773f74ba00ed1f312572435", "98e7247c07f0fe411c267e4384b0f600", "2ff58d80033927ab8ef4d4587514f0fb",
        "9924a7c8587336bfb118024db8674a14", "2519498e80f1478f37ba55bd6d27618c",
    ),
    32: (
        "530f8afbc74536b9a963b4f1c4cb738b", "cea7403d4d606b6e074ec5d3baf39d18", "d0d1c8a799996bf0265b98b5d48ab919",
        "b094dac5d93471bdec1a502270e3cc6c", "76fc6ece0f4e1768cddf8853bb2d551b",
    ),
}


def gcm_examples():
    """(length, key, nonce, what goes with it, text, text sealed, tag), all but the length as bytes."""
    examples = []
    for length in LENGTHS:
        of_nothing, block, of_block, of_text, of_all = GCM_TAGS[length]
        key = (GCM_KEY * 2)[:2 * length]
        sealed = GCM_SEALED[length]
        for row in (
            ("00" * length, "00" * 12, "", "", "", of_nothing),
            ("00" * length, "00" * 12, "", "00" * 16, block, of_block),
            (key, GCM_NONCE, "", GCM_TEXT, sealed, of_text),
            (key, GCM_NONCE, GCM_BESIDE, GCM_TEXT[:120], sealed[:120], of_all),
        ):
            examples.append((length,) + tuple(hexed(part) for part in row))
    return examples
